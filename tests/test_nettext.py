"""Points 15 and 16: net texts."""

import unittest

from meetonce.errors import BadNet, BadText, RoadsCross
from meetonce.nets import Net
from meetonce.nettext import net_text, read_net
from tests.samples import DIAMOND, GuideCase, random_nets

FAR = 10 ** 59 + 7


def lines(*words):
    """A text of these lines."""
    return "\n".join(words)


class NetTextTest(GuideCase):
    """Point 15."""

    def test_the_text_of_a_net(self):
        self.same("net\nrow 1\nrow 2\nrow 1\nroad 0 1 5\nroad 0 2 5\nroad 1 3 4\nroad 2 3 4", net_text(Net(*DIAMOND)))

    def test_roads_ascend_as_numbers(self):
        net = Net([1, 11], [(0, 10, 1), (0, 9, -20), (0, 2, 0)])
        self.same(lines("net", "row 1", "row 11", "road 0 2 0", "road 0 9 -20", "road 0 10 1"), net_text(net))

    def test_no_roads_and_one_row(self):
        self.same("net\nrow 2\nrow 12", net_text(Net([2, 12], [])))
        self.same("net\nrow 3", net_text(Net([3], [])))

    def test_the_text_of_any_net_gives_it_back(self):
        for widths, roads in random_nets(15, 50, prices=(-1000000, -1, 0, 12, FAR)):
            net = Net(widths, roads)
            again = read_net(net_text(net))
            self.assertTrue(again == net)
            self.same((net.widths, net.roads, net.pairs), (again.widths, again.roads, again.pairs))


class ReadNetTest(GuideCase):
    """Point 16."""

    def wrong(self, line, text):
        """The text must be refused at this line."""
        self.refused(BadText, {"line": line}, read_net, text)

    def test_texts_of_nets(self):
        net = read_net("net\nrow 1\nrow 2\nroad 0 1 -3\nroad 0 2 0")
        self.same(((1, 2), ((0, 1, -3), (0, 2, 0))), (net.widths, net.roads))
        self.same((4,), read_net("net\nrow 4").widths)
        self.same((10, 99), read_net("net\nrow 10\nrow 99").widths)

    def test_numbers_of_60_digits(self):
        for price in (FAR, -FAR):
            self.same(((0, 1, price),), read_net(f"net\nrow 1\nrow 1\nroad 0 1 {price}").roads)
        self.refused(BadNet, {"at": 0}, read_net, f"net\nrow 1\nrow 1\nroad {FAR} {FAR} {FAR}")
        self.refused(BadNet, {"at": 1}, read_net, f"net\nrow 1\nrow 1\nroad 0 1 5\nroad 0 {FAR} 5")

    def test_the_first_line(self):
        for line in ("", "row 1", "Net", "NET", "net ", " net", "net\t", "nets", "net 1", "\tnet", "0"):
            self.wrong(1, line)
            self.wrong(1, lines(line, "row 1"))
        self.wrong(1, "\nnet\nrow 1")

    def test_no_second_line(self):
        self.wrong(2, "net")

    def test_the_second_line_is_a_row_line(self):
        for line in ("", "road 0 1 5", "net", "row", "row x", "road", "done 0"):
            self.wrong(2, lines("net", line))
            self.wrong(2, lines("net", line, "row 1", "row 1"))

    def test_wrong_row_lines(self):
        for line in ("row 0", "row -1", "row -0", "row 01", "row 00", "row +1", "row 1_0", "row 1x", "row 1.0",
                     "row 1 ", " row 1", "row  1", "row 1 1", "row", "row ", "Row 1", "ROW 1", "rOw 1", "row\t1",
                     "row 1\t", "rows 1", "row a", "row 0x1", "row --1", "row -", "row '1'", "1 row", "row1", "1"):
            self.wrong(2, lines("net", line))
            self.wrong(3, lines("net", "row 1", line))
            self.wrong(3, lines("net", "row 1", line, "row 1", "road 0 1 5"))

    def test_wrong_road_lines(self):
        for line in ("road 0 1", "road 0 1 5 5", "road", "road 0", "road 0 1 ", "road 0  1 5", "road  0 1 5",
                     "road 0 1  5", " road 0 1 5", "road 0 1 5 ", "road -1 1 5", "road 0 -1 5", "road -0 1 5",
                     "road 0 -0 5", "road 0 1 -0", "road 00 1 5", "road 0 01 5", "road 0 1 05", "road 0 1 -05",
                     "road +0 1 5", "road 0 +1 5", "road 0 1 +5", "road 0 1 5_0", "road 0 1_0 5", "road 0 1 x",
                     "road a 1 5", "road 0 b 5", "Road 0 1 5", "ROAD 0 1 5", "roaD 0 1 5", "road\t0 1 5", "road 0\t1 5",
                     "road 0 1 5\t", "road 0 1 5.0", "road 0 1 --5", "road 0 1 -", "road 0 1 - 5", "road 0,1,5",
                     "roads 0 1 5", "road 0 1 1e3", "close 0 1", "", " ", "\t", "5", "net"):
            self.wrong(4, lines("net", "row 1", "row 1", line))
            self.wrong(5, lines("net", "row 2", "row 2", "road 0 2 1", line))
            self.wrong(4, lines("net", "row 1", "row 1", line, "road 0 1 5"))

    def test_a_row_line_behind_a_road_line(self):
        self.wrong(5, lines("net", "row 1", "row 1", "road 0 1 5", "row 1"))
        self.wrong(6, lines("net", "row 1", "row 2", "road 0 1 5", "road 0 2 5", "row 1", "road 1 3 5"))

    def test_road_lines_that_do_not_ascend(self):
        head = ("net", "row 2", "row 12")
        self.wrong(5, lines(*head, "road 0 3 5", "road 0 2 5"))
        self.wrong(5, lines(*head, "road 1 3 5", "road 0 4 5"))
        self.wrong(5, lines(*head, "road 0 2 5", "road 0 2 5"))
        self.wrong(5, lines(*head, "road 0 2 5", "road 0 2 6"))
        self.wrong(6, lines(*head, "road 0 2 5", "road 0 10 6", "road 0 9 7"))
        self.same(3, len(read_net(lines(*head, "road 0 9 5", "road 0 10 -5", "road 1 10 5")).roads))

    def test_empty_lines_and_a_newline_at_the_end(self):
        self.wrong(3, "net\nrow 1\n")
        self.wrong(2, "net\n")
        self.wrong(3, "net\nrow 1\n\nrow 1")
        self.wrong(5, "net\nrow 1\nrow 1\nroad 0 1 5\n")
        self.wrong(2, "net\n\nrow 1")

    def test_the_first_wrong_line_counts(self):
        self.wrong(3, lines("net", "row 2", "row 0", "road 0 1 5", "row 1", "road x"))
        self.wrong(1, lines("not", "row 0"))
        self.wrong(5, lines("net", "row 2", "row 2", "road 1 2 5", "road 0 3 5", "row 0"))

    def test_wrong_lines_come_before_wrong_nets(self):
        self.wrong(5, lines("net", "row 1", "row 1", "road 0 5 5", "road"))
        self.wrong(6, lines("net", "row 2", "row 2", "road 0 3 5", "road 1 2 5", ""))

    def test_right_lines_that_give_no_net(self):
        head = ("net", "row 2", "row 2", "row 1")
        self.refused(BadNet, {"at": 1}, read_net, lines(*head, "road 0 2 5", "road 0 4 5"))
        self.refused(BadNet, {"at": 0}, read_net, lines(*head, "road 0 1 5"))
        self.refused(BadNet, {"at": 2}, read_net, lines(*head, "road 0 2 5", "road 1 3 5", "road 5 6 5"))
        self.refused(RoadsCross, {"first": 1, "second": 2}, read_net,
                     lines(*head, "road 0 2 5", "road 0 3 5", "road 1 2 5"))
        self.refused(BadNet, {"at": 0}, read_net, lines("net", "row 1", "road 0 1 5"))
        self.refused(BadNet, {"at": 0}, read_net, lines(*head, "road 0 0 5", "road 0 1 5"))
        self.refused(BadNet, {"at": 1}, read_net, lines(*head, "road 0 2 5", "road 1 0 5"))


if __name__ == "__main__":
    unittest.main()
