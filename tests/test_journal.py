"""Points 69 to 72: deeds and desks as texts."""

import random
import unittest

from meetonce.desk import Desk
from meetonce.errors import BadNet, BadText, RoadsCross
from meetonce.journal import deed_line, desk_text, read_deed, read_desk, replay
from meetonce.nets import Net
from tests.desk_model import ATTRIBUTES, attributes
from tests.samples import DIAMOND, LADDER, GuideCase, random_nets
from tests.test_desk import UndoTest

FAR = 10 ** 59
LINES = {
    ("wish", (0, 2, 4)): "wish 0 2 4", ("wish", (7,)): "wish 7", ("wish", (0, FAR)): f"wish 0 {FAR}",
    ("wish", (3, 3, 0)): "wish 3 3 0", ("drop", 0): "drop 0", ("drop", 12): "drop 12", ("close", 0, 11): "close 0 11",
    ("reopen", 10, 0): "reopen 10 0", ("reprice", 0, 1, -1000000): "reprice 0 1 -1000000",
    ("reprice", 0, 1, 0): "reprice 0 1 0", ("reprice", FAR, 0, -FAR): f"reprice {FAR} 0 -{FAR}",
    ("turn", 0, 6, 2): "turn 0 6 2", ("settle",): "settle"}
WRONG_LINES = [
    "", " ", "wish", "wish ", " wish 0", "wish  0", "wish 0 ", "wish 0  1", "wish 00", "wish 01", "wish +1", "wish -1",
    "wish -0", "wish 0 -1", "wish 1.0", "wish 0,1", "wish a", "wish 0\t1", "wish\t0", "wish 0\n", "wish 0\nsettle",
    "Wish 0",
    "WISH 0", "wishes 0", "drop", "drop 1 2", "drop -1", "drop -0", "drop 01", "drop x", "drop ", "drop  1", "close 1",
    "close 1 2 3", "close -1 2", "close 1 -2", "close 1 02", "close 1 2 ", "close 1  2", "reopen 1", "reopen 1 2 3",
    "reopen 1 -2", "reopen 1 +2", "reprice 1 2", "reprice 1 2 3 4", "reprice -1 2 3", "reprice 1 -2 3",
    "reprice 1 2 -0",
    "reprice 1 2 --3", "reprice 1 2 - 3", "reprice 1 2 -03", "reprice 1 2 3-", "reprice 1 2 -", "turn 1 2",
    "turn 1 2 3 4",
    "turn 1 2 -3", "turn -1 2 3", "turn 1 -2 3", "turn 1 2 03", "settle 1", "settle ", " settle", "settle\n", "settled",
    "settle settle", "0", "0 1", "undo", "redo", "done 0", "play", "road 0 1 5", "row 2", "wish 0 wish 1",
    "turn one 2 3",
    "wish 1_0", "drop 1e3", "drop 0x1"]


class DeedTest(GuideCase):
    """Point 69."""

    def test_lines(self):
        for deed, line in LINES.items():
            with self.subTest(line):
                self.same(line, deed_line(deed))
                self.same(line, deed_line(list(deed)))
                self.same(deed, read_deed(line))
        self.same("wish 0 2 4", deed_line(("wish", [0, 2, 4])))
        self.same("wish 0 2 4", deed_line(["wish", [0, 2, 4]]))

    def test_negative_integers_are_written_with_a_sign(self):
        self.same(["drop -3", "turn 0 -1 2", "wish -1"],
                  [deed_line(deed) for deed in (("drop", -3), ("turn", 0, -1, 2), ("wish", (-1,)))])

    def test_wrong_lines(self):
        for line in WRONG_LINES:
            with self.subTest(line):
                self.refused(BadText, {"line": 1}, read_deed, line)


def some_desk(net=None):
    """A desk with done and undone deeds."""
    desk = Desk(net or Net(*LADDER))
    desk.play(UndoTest.DEEDS)
    for _ in range(3):
        desk.undo()
    return desk


HEAD = """desk
net
row 1
row 2
row 1
road 0 1 5
road 0 2 5
road 1 3 4
road 2 3 4
done 2
wish 0 2 3
close 1 3
undone 2
reprice 0 1 -7
drop 0"""


class DeskTextTest(GuideCase):
    """Points 70 and 71: desks that are written and read."""

    def same_desks(self, one, two):
        """All attributes of the two are equal, and their undone deeds can be redone alike."""
        self.assertTrue(attributes(one) == attributes(two))
        for _ in range(len(one.undone)):
            self.same(one.redo(), two.redo())
        for _ in range(len(one.done)):
            self.same(one.undo(), two.undo())
            self.assertTrue(attributes(one) == attributes(two))

    def test_new_desks(self):
        self.same("desk\nnet\nrow 2\ndone 0\nundone 0", desk_text(Desk(Net([2], []))))
        self.same("desk\nnet\nrow 1\nrow 1\nroad 0 1 -5\ndone 0\nundone 0", desk_text(Desk(Net([1, 1], [(0, 1, -5)]))))
        for net in (Net([2], []), Net(*DIAMOND), Net([1, 1], [])):
            self.same_desks(Desk(net), read_desk(desk_text(Desk(net))))

    def test_a_desk_with_deeds(self):
        desk = Desk(Net(*DIAMOND))
        for call, *values in ((desk.wish, [0, 2, 3]), (desk.close, 1, 3), (desk.reprice, 0, 1, -7), (desk.drop, 0)):
            call(*values)
        self.same(HEAD.replace("done 2", "done 4", 1).replace("undone 2\n", "").replace("drop 0", "drop 0\nundone 0"),
                  desk_text(desk))
        desk.undo()
        desk.undo()
        self.same(HEAD, desk_text(desk))
        self.same_desks(desk, read_desk(HEAD))

    def test_all_kinds_of_deeds(self):
        for undone in range(len(UndoTest.DEEDS) + 1):
            desk = Desk(Net(*LADDER))
            desk.play(UndoTest.DEEDS)
            for _ in range(undone):
                desk.undo()
            text = desk_text(desk)
            self.same(text, desk_text(read_desk(text)))
            self.same_desks(desk, read_desk(text))

    def test_the_first_net_is_written(self):
        desk = Desk(Net(*DIAMOND))
        desk.close(0, 1)
        desk.reprice(0, 2, 9)
        self.assertIn("road 0 1 5\nroad 0 2 5\n", desk_text(desk))
        self.assertNotIn("road 0 2 9", desk_text(desk))

    def test_long_integers(self):
        text = HEAD.replace("road 0 1 5", f"road 0 1 {FAR}").replace("-7", f"-{FAR}")
        desk = read_desk(text)
        self.same(text, desk_text(desk))
        desk.redo()
        self.same(-FAR, desk.net.price_of(0, 1))

    def test_random_desks(self):
        rng = random.Random(70)
        for widths, roads in random_nets(7001, 20) + [LADDER] * 5:
            desk = Desk(Net(widths, roads))
            for _ in range(12):
                net = desk.net
                if not net.roads:
                    break
                road = rng.choice(net.roads)
                pair = rng.choice(net.pairs)
                rng.choice([lambda: desk.close(*road[:2]), lambda: desk.reprice(*road[:2], rng.randint(-2, 2)),
                            lambda: desk.turn(*pair, desk.book.admissible(*pair)[-1]) if not desk.wishes else [],
                            lambda: desk.wish(desk.book.route(*pair)), desk.settle,
                            lambda: desk.undo() if desk.done else [], lambda: desk.undo() if desk.done else []])()
            text = desk_text(desk)
            self.same(text, desk_text(read_desk(text)))
            self.same_desks(desk, read_desk(text))


class WrongTextTest(GuideCase):
    """Point 71: the first wrong line."""

    def wrong(self, line, text):
        """The text is refused for this line."""
        with self.subTest(text):
            self.refused(BadText, {"line": line}, read_desk, text)

    def test_each_line_missing_at_the_end(self):
        lines = HEAD.split("\n")
        for many in range(1, len(lines)):
            self.wrong(many + 1, "\n".join(lines[:many]))

    def test_each_line_spoiled(self):
        lines = HEAD.split("\n")
        for at in range(len(lines)):
            for spoiled in ("", " " + lines[at], lines[at] + " ", lines[at] + "\t", "desk" if at else "desks", "nets",
                            "x",
                            lines[at].upper(), lines[at] + " 1 2 3 4", "done -1", "undone 01", "row 0", "road 0 1 05"):
                self.wrong(at + 1, "\n".join(lines[:at] + [spoiled] + lines[at + 1:]))

    def test_lines_after_the_end(self):
        for more in ("", " ", "settle", "undone 0", "done 0", "\n"):
            self.wrong(16, HEAD + "\n" + more)
        self.wrong(6, "desk\nnet\nrow 2\ndone 0\nundone 0\n")
        self.wrong(6, "desk\nnet\nrow 2\ndone 0\nundone 0\nsettle\nsettle")

    def test_the_head(self):
        for line, text in ((1, ""), (1, "\n"), (1, "net"), (1, " desk"), (1, "desk "), (1, "Desk\nnet"), (2, "desk"),
                           (2, "desk\n"), (2, "desk\nrow 1"), (2, "desk\nnet "), (3, "desk\nnet"), (3, "desk\nnet\n"),
                           (3, "desk\nnet\ndone 0\nundone 0"), (3, "desk\nnet\nroad 0 1 5\ndone 0"),
                           (3, "desk\nnet\nrow 0\ndone 0"), (3, "desk\nnet\nrow -1"), (3, "desk\nnet\nrow 01"),
                           (3, "desk\nnet\nrow"), (3, "desk\nnet\nrow 1 1"), (4, "desk\nnet\nrow 1"),
                           (4, "desk\nnet\nrow 1\n"), (4, "desk\nnet\nrow 1\nundone 0"),
                           (4, "desk\nnet\nrow 1\nsettle"),
                           (4, "desk\nnet\nrow 1\ndesk"), (4, "desk\nnet\nrow 1\nnet"), (1, "net\nrow 1\ndone 0")):
            self.wrong(line, text)

    def test_rows_and_roads(self):
        start = "desk\nnet\nrow 2\nrow 2\n"
        for line, text in ((6, "road 0 2 5\nrow 1\ndone 0"), (6, "road 0 2 5\nroad 0 2 6\ndone 0"),
                           (6, "road 1 2 5\nroad 0 2 6\ndone 0"), (7, "road 0 2 5\nroad 1 3 6\nroad 1 2 6\ndone 0"),
                           (5, "road 0 2\ndone 0"), (5, "road -1 2 5\ndone 0"), (5, "road 0 -2 5\ndone 0"),
                           (5, "road 0 2 +5\ndone 0"), (5, "road 0 2 5 6\ndone 0"), (5, "road  0 2 5\ndone 0"),
                           (6, "road 0 2 5\n\ndone 0"), (6, "road 0 2 5\nturn 0 2 2\ndone 0"),
                           (6, "road 0 2 5\ndone"), (6, "road 0 2 5\ndone -1"), (6, "road 0 2 5\ndone 00"),
                           (6, "road 0 2 5\ndone -0"), (6, "road 0 2 5\ndone 1 1"), (6, "road 0 2 5\ndone x"),
                           (6, "road 0 2 5\n done 0"), (6, "road 0 2 5\ndone  0"), (6, "road 0 2 5\ndone +0")):
            self.wrong(line, start + text)

    def test_errors_of_the_net(self):
        start = "desk\nnet\nrow 2\nrow 2\n"
        for roads, error_class, fields in (
                ("road 0 2 5\nroad 0 4 5", BadNet, {"at": 1}), ("road 0 1 5", BadNet, {"at": 0}),
                (f"road 0 2 5\nroad 0 3 5\nroad {FAR} 3 5", BadNet, {"at": 2}),
                ("road 0 3 5\nroad 1 2 5", RoadsCross, {"first": 0, "second": 1})):
            # A wrong line further down comes later, and one before it comes first.
            for rest in ("done 0\nundone 0", "done 0", "done 1\nx", "done 1", "done 0\nx", "done 0\nundone 0\nx",
                         f"done {FAR}"):
                self.refused(error_class, fields, read_desk, start + roads + "\n" + rest)
            many = start.count("\n") + len(roads.split("\n"))
            for rest in ("", "\ndone", "\ndone -1\ndone 0", "\nrow 1\ndone 0", "\nx\ndone 0\nundone 0"):
                self.wrong(many + 1, start + roads + rest)

    def test_counts_that_are_too_great_or_too_small(self):
        for count, line in ((0, 11), (1, 12), (3, 13), (4, 13), (FAR, 13)):
            self.wrong(line, HEAD.replace("done 2", f"done {count}", 1))
        for count, line in ((0, 14), (1, 15), (3, 16), (FAR, 16)):
            self.wrong(line, HEAD.replace("undone 2", f"undone {count}"))
        self.wrong(10, HEAD.replace("done 2", "done", 1))
        for wrong in ("undone", "undone -1", "undone 02", "undone 2 ", "undone 2 2", "done 2", "undone x", "undone +2"):
            self.wrong(13, HEAD.replace("undone 2", wrong))

    def test_deeds_that_are_refused_at_their_moment(self):
        for deed in ("wish 0 1 3", "wish 0 3", "wish 4", f"wish {FAR}", "drop 1", f"drop {FAR}", "close 0 3",
                     "close 9 9",
                     f"close {FAR} {FAR}", "reopen 1 3", "reopen 4 5", "reprice 0 3 1", f"reprice {FAR} 0 -{FAR}",
                     "turn 0 3 1", "turn 3 0 0", "turn 0 0 0", "turn 9 9 9", "turn 0 3 3", f"turn 0 3 {FAR}"):
            self.wrong(12, HEAD.replace("close 1 3", deed))
            self.wrong(12, HEAD.replace("close 1 3", deed).replace("undone 2", "x"))
        self.wrong(11, HEAD.replace("wish 0 2 3\nclose 1 3", "reopen 1 3\nclose 1 3"))
        self.wrong(12, HEAD.replace("wish 0 2 3\nclose 1 3", "close 1 3\nwish 0 1 3"))

    def test_undone_deeds_that_are_refused(self):
        for deed in ("close 1 3", "reprice 1 3 5", "drop 1", "wish 0 1 3", "turn 0 3 1", "undo"):
            self.wrong(14, HEAD.replace("reprice 0 1 -7", deed))
        # The undone deeds are done behind the done ones, one after the other.
        self.wrong(15, HEAD.replace("reprice 0 1 -7\ndrop 0", "drop 0\ndrop 0"))
        self.same((("reopen", 1, 3), ("close", 1, 3)),
                  read_desk(HEAD.replace("reprice 0 1 -7\ndrop 0", "reopen 1 3\nclose 1 3")).undone)


class ReplayTest(GuideCase):
    """Point 72."""

    def test_replay(self):
        desk = some_desk()
        fresh = replay(desk)
        self.same(UndoTest.DEEDS[-3:], desk.undone)
        for name in ATTRIBUTES[:-1]:
            self.assertTrue(getattr(desk, name) == getattr(fresh, name), name)
        self.same((), fresh.undone)

    def test_it_is_a_desk_of_its_own(self):
        desk = some_desk()
        fresh = replay(desk)
        before = attributes(desk)
        fresh.undo()
        fresh.settle()
        fresh.close(0, 1)
        self.assertTrue(attributes(desk) == before)
        again = attributes(fresh)
        desk.undo()
        desk.reprice(0, 1, 7)
        self.assertTrue(attributes(fresh) == again)

    def test_new_desks(self):
        fresh = replay(Desk(Net([2], [])))
        self.assertTrue(attributes(fresh) == attributes(Desk(Net([2], []))))

    def test_each_deed_is_done_by_itself(self):
        fresh = replay(some_desk())
        desk = some_desk()
        for _ in range(len(desk.done)):
            self.same(desk.undo(), fresh.undo())
            self.assertTrue(attributes(desk)[:7] == attributes(fresh)[:7])


if __name__ == "__main__":
    unittest.main()
