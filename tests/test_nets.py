"""Points 4 to 9: nets."""

import unittest

from meetonce.errors import BadNet, NoRoad, RoadsCross
from meetonce.nets import Net, with_road, without_road
from tests.samples import DIAMOND, LADDER, GuideCase, pairs_of, random_nets, rows_of

FAR = 10 ** 59


class PlacesTest(GuideCase):
    """Point 4, and the attributes of point 7."""

    def test_places_are_numbered_row_by_row_from_left_to_right(self):
        net = Net([2, 3, 1], [])
        self.same([[0, 1], [2, 3, 4], [5]], [net.places_of(row) for row in range(3)])
        self.same([0, 0, 1, 1, 1, 2], [net.row_of(place) for place in range(6)])
        self.same([0, 1, 0, 1, 2, 0], [net.column_of(place) for place in range(6)])
        self.same((2, 3, 1), net.widths)
        self.same(6, net.size)
        self.same((), net.roads)
        self.same((), net.pairs)

    def test_one_row(self):
        net = Net([3], [])
        self.same(((3,), (), 3, ()), (net.widths, net.roads, net.size, net.pairs))
        self.same([0, 1, 2], net.places_of(0))
        self.same([[], [], []], [net.next_places(place) for place in range(3)])
        self.same([0, 1, 2], [net.column_of(place) for place in range(3)])

    def test_one_place(self):
        net = Net([1], [])
        self.same(((1,), (), 1, ()), (net.widths, net.roads, net.size, net.pairs))

    def test_one_place_in_each_row(self):
        net = Net([1, 1, 1, 1], [(2, 3, 4), (0, 1, 2), (1, 2, 3)])
        self.same(4, net.size)
        self.same([0, 1, 2, 3], [net.row_of(place) for place in range(4)])
        self.same([0, 0, 0, 0], [net.column_of(place) for place in range(4)])
        self.same(((0, 1), (1, 2), (2, 3), (0, 2), (1, 3), (0, 3)), net.pairs)

    def test_rows_columns_and_places_agree_in_any_net(self):
        for widths, roads in random_nets(4, 40):
            net = Net(widths, roads)
            self.same(rows_of(widths), [net.row_of(place) for place in range(net.size)])
            for row, width in enumerate(widths):
                places = net.places_of(row)
                self.assertEqual(width, len(places))
                self.same([row] * width, [net.row_of(place) for place in places])
                self.same(list(range(width)), [net.column_of(place) for place in places])


class RoadsTest(GuideCase):
    """Points 7 and 8."""

    def test_the_example_of_the_interface(self):
        net = Net([1, 2, 1], [(0, 2, 5), (0, 1, 5), (1, 3, 4), (2, 3, 4)])
        self.same(((0, 1, 5), (0, 2, 5), (1, 3, 4), (2, 3, 4)), net.roads)
        self.same(((0, 1), (0, 2), (1, 3), (2, 3), (0, 3)), net.pairs)

    def test_roads_ascend_however_they_were_passed(self):
        ascending = ((0, 2, 9), (0, 3, -9), (1, 3, 0), (2, 4, 7), (3, 4, 7), (3, 5, 1))
        for order in ((5, 4, 3, 2, 1, 0), (1, 0, 3, 2, 5, 4), (2, 5, 0, 3, 1, 4)):
            net = Net([2, 2, 2], [ascending[at] for at in order])
            self.same(ascending, net.roads)
            self.same(list(ascending), list(net))
            self.same([2, 3], net.next_places(0))
            self.same([0, 1], net.previous_places(3))
            self.same([2, 3], net.previous_places(4))

    def test_pairs_are_ordered_by_rows_then_start_then_goal(self):
        net = Net([2, 2, 2], [(0, 2, 1), (0, 3, 1), (1, 3, 1), (2, 4, 1), (3, 5, 1)])
        self.same(((0, 2), (0, 3), (1, 3), (2, 4), (3, 5), (0, 4), (0, 5), (1, 5)), net.pairs)

    def test_places_that_no_route_joins_are_no_pair(self):
        net = Net([1, 2, 2, 1], [(0, 1, 1), (2, 4, 1), (4, 5, 1)])
        self.same(((0, 1), (2, 4), (4, 5), (2, 5)), net.pairs)

    def test_pairs_of_any_net(self):
        for widths, roads in random_nets(7, 60):
            self.same(tuple(pairs_of(widths, roads)), Net(widths, roads).pairs)

    def test_next_and_previous_places(self):
        net = Net(*LADDER)
        self.same([[1, 2, 3], [4], [4, 5], [5], [6], [6], []], [net.next_places(place) for place in range(7)])
        self.same([[], [0], [0], [0], [1, 2], [2, 3], [4, 5]], [net.previous_places(place) for place in range(7)])

    def test_a_road_is_in_the_net_for_any_two_integers(self):
        net = Net(*LADDER)
        roads = {(start, end) for start, end, _ in LADDER[1]}
        for start in range(-8, 10):
            for end in range(-8, 10):
                self.assertIs((start, end) in roads, (start, end) in net)
        self.assertIs(False, (FAR, 0) in net)
        self.assertIs(False, (0, -FAR) in net)

    def test_prices_of_any_two_integers(self):
        net = Net([1, 2], [(0, 1, 0), (0, 2, -8)])
        prices = {(0, 1): 0, (0, 2): -8}
        for start in range(-4, 5):
            for end in range(-4, 5):
                self.same(prices.get((start, end)), net.price_of(start, end))
        self.assertIsNone(net.price_of(FAR, -FAR))

    def test_equal_nets(self):
        widths, roads = DIAMOND
        self.assertTrue(Net(widths, roads) == Net(list(widths), list(reversed(roads))))
        self.assertFalse(Net(widths, roads) != Net(list(widths), list(reversed(roads))))

    def test_unequal_nets(self):
        widths, roads = DIAMOND
        others = [Net(widths, roads[:3] + ((2, 3, 5),)), Net(widths, roads[1:]), Net(widths + (1,), roads),
                  Net((1, 2, 2), roads), Net(widths, ())]
        for other in others:
            self.assertFalse(Net(widths, roads) == other)
            self.assertTrue(Net(widths, roads) != other)
        self.assertFalse(Net((2, 1), ()) == Net((1, 2), ()))


class WrongNetsTest(GuideCase):
    """Points 5 and 6."""

    def test_wrong_widths(self):
        for widths in ([], (), [0], [-1], [2, 0, 3], [1, 1, -5], [1, -FAR]):
            self.refused(BadNet, {"at": -1}, Net, widths, [])

    def test_widths_are_checked_before_roads(self):
        self.refused(BadNet, {"at": -1}, Net, [1, 0], [(0, 9, 1)])
        self.refused(BadNet, {"at": -1}, Net, [], [(0, 1, 1)])

    def test_a_start_that_is_no_place(self):
        for start in (-1, -2, -3, 3, 4, 100, FAR, -FAR):
            self.refused(BadNet, {"at": 1}, Net, [1, 2], [(0, 1, 1), (start, 2, 1)])

    def test_an_end_that_is_no_place(self):
        for end in (-1, -2, -3, 3, 4, 100, FAR, -FAR):
            self.refused(BadNet, {"at": 1}, Net, [1, 2], [(0, 1, 1), (0, end, 1)])

    def test_the_last_row_starts_no_road(self):
        self.refused(BadNet, {"at": 0}, Net, [1, 2], [(1, 2, 1)])
        self.refused(BadNet, {"at": 0}, Net, [1, 2], [(2, 3, 1)])

    def test_an_end_that_is_not_in_the_next_row(self):
        for start, end in ((0, 0), (0, 1), (0, 4), (0, 5), (2, 0), (2, 3), (4, 0), (2, 2)):
            self.refused(BadNet, {"at": 0}, Net, [2, 2, 2], [(start, end, 1)])

    def test_the_same_road_twice(self):
        self.refused(BadNet, {"at": 2}, Net, [1, 2], [(0, 1, 1), (0, 2, 1), (0, 1, 1)])
        self.refused(BadNet, {"at": 1}, Net, [1, 2], [(0, 1, 1), (0, 1, 2)])

    def test_roads_that_cross(self):
        self.refused(RoadsCross, {"first": 0, "second": 1}, Net, [2, 2], [(0, 3, 1), (1, 2, 1)])
        self.refused(RoadsCross, {"first": 0, "second": 1}, Net, [2, 2], [(1, 2, 1), (0, 3, 1)])
        self.refused(RoadsCross, {"first": 1, "second": 2}, Net, [1, 3, 3], [(0, 3, 1), (1, 6, 1), (3, 4, 1)])

    def test_the_smallest_earlier_index_that_is_crossed(self):
        roads = [(0, 4, 1), (1, 5, 1), (0, 5, 1), (2, 6, 1), (2, 4, 1)]
        self.refused(RoadsCross, {"first": 1, "second": 4}, Net, [4, 3], roads)
        self.refused(RoadsCross, {"first": 0, "second": 3}, Net, [4, 3], [(2, 6, 1), (1, 6, 1), (1, 5, 1), (3, 4, 1)])

    def test_roads_that_share_a_start_or_an_end_do_not_cross(self):
        self.same(3, len(Net([2, 2], [(0, 2, 1), (1, 3, 1), (0, 3, 1)]).roads))
        self.same(3, len(Net([2, 2], [(1, 3, 1), (1, 2, 1), (0, 2, 1)]).roads))
        self.same(4, len(Net([2, 3], [(1, 4, 1), (0, 4, 1), (0, 2, 1), (0, 3, 1)]).roads))

    def test_roads_of_different_rows_do_not_cross(self):
        roads = [(0, 3, 1), (1, 3, 1), (2, 4, 1), (3, 4, 1)]
        self.same(tuple(roads), Net([2, 2, 2], roads).roads)

    def test_the_first_wrong_road_counts(self):
        crossing = [(0, 3, 1), (1, 2, 1)]
        self.refused(RoadsCross, {"first": 0, "second": 1}, Net, [2, 2], crossing + [(0, 1, 1)])
        self.refused(BadNet, {"at": 0}, Net, [2, 2], [(0, 1, 1)] + crossing)
        self.refused(BadNet, {"at": 1}, Net, [2, 2], [(0, 3, 1), (0, 3, 2), (1, 2, 1)])
        self.refused(RoadsCross, {"first": 0, "second": 1}, Net, [2, 2], crossing + [(0, 3, 1)])

    def test_at_one_road_a_bad_road_comes_before_a_crossing(self):
        self.refused(BadNet, {"at": 1}, Net, [2, 2, 2], [(1, 3, 1), (0, 5, 1)])
        self.refused(BadNet, {"at": 1}, Net, [2, 2], [(0, 2, 1), (-1, 3, 1)])
        self.refused(BadNet, {"at": 1}, Net, [2, 2], [(1, 2, 1), (0, 4, 1)])


class ChangedNetsTest(GuideCase):
    """Point 9."""

    def setUp(self):
        self.roads = ((0, 2, 5), (1, 3, 5), (2, 4, 1), (3, 4, 1))
        self.net = Net([2, 2, 1], self.roads[::-1])

    def tearDown(self):
        self.same(((2, 2, 1), self.roads), (self.net.widths, self.net.roads))

    def test_a_price_is_changed(self):
        changed = with_road(self.net, 1, 3, -7)
        self.same(((0, 2, 5), (1, 3, -7), (2, 4, 1), (3, 4, 1)), changed.roads)
        self.same((2, 2, 1), changed.widths)
        self.same(self.net.pairs, changed.pairs)
        self.assertTrue(with_road(self.net, 1, 3, 5) == self.net)

    def test_a_road_is_added(self):
        changed = with_road(self.net, 0, 3, 0)
        self.same(((0, 2, 5), (0, 3, 0), (1, 3, 5), (2, 4, 1), (3, 4, 1)), changed.roads)
        self.same([2, 3], changed.next_places(0))
        self.same(((0, 2), (0, 3), (1, 3), (2, 4), (3, 4), (0, 4), (1, 4)), changed.pairs)

    def test_a_road_that_is_no_road(self):
        for start, end in ((0, 4), (0, 1), (2, 0), (-1, 2), (0, 5), (FAR, 3), (0, -3), (4, 5), (3, 3)):
            self.refused(BadNet, {"at": 4}, with_road, self.net, start, end, 1)

    def test_a_road_that_crosses(self):
        wider = with_road(self.net, 0, 3, 1)
        self.refused(RoadsCross, {"first": 1, "second": 5}, with_road, wider, 1, 2, 1)
        wider = Net([3, 3], [(2, 5, 1), (1, 4, 1), (0, 4, 1), (0, 3, 1)])
        self.refused(RoadsCross, {"first": 1, "second": 4}, with_road, wider, 2, 3, 1)

    def test_a_road_is_taken_out(self):
        changed = without_road(self.net, 2, 4)
        self.same(((0, 2, 5), (1, 3, 5), (3, 4, 1)), changed.roads)
        self.same((2, 2, 1), changed.widths)
        self.same(((0, 2), (1, 3), (3, 4), (1, 4)), changed.pairs)
        self.assertTrue(with_road(changed, 2, 4, 1) == self.net)

    def test_a_road_that_is_not_there(self):
        for start, end in ((0, 3), (2, 0), (-5, 2), (0, -3), (4, 5), (FAR, -FAR), (0, 0)):
            self.refused(NoRoad, {"start": start, "end": end}, without_road, self.net, start, end)


if __name__ == "__main__":
    unittest.main()
