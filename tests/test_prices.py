"""Points 10 to 14: routes and prices."""

import random
import unittest

from meetonce.errors import BadRoute, NoRoute
from meetonce.nets import Net
from meetonce.prices import (cheap_next_places, check_route, is_cheapest, leftmost_route, least_price, price_table,
                             route_price, table_shows)
from tests.samples import DIAMOND, LADDER, GuideCase, cheapest_of, price_in, random_nets, routes_of

FAR = 10 ** 59
# Prices below zero among them: a longer look ahead pays.
HILLS = ((2, 2, 2), ((0, 2, 3), (0, 3, -4), (1, 3, 0), (2, 4, -9), (3, 4, 6), (3, 5, 2)))


class RouteTest(GuideCase):
    """Points 10 and 11."""

    def wrong(self, net, route, at):
        """All three functions must refuse the route at this entry."""
        for call in (check_route, route_price, is_cheapest):
            for kind in (list, tuple):
                self.refused(BadRoute, {"index": 0, "at": at}, call, net, kind(route))

    def test_routes_come_back_as_tuples(self):
        net = Net(*HILLS)
        self.same((0, 3, 5), check_route(net, [0, 3, 5]))
        self.same((0, 3, 5), check_route(net, (0, 3, 5)))
        self.same((4,), check_route(net, [4]))

    def test_the_price_is_the_sum_of_the_roads(self):
        net = Net(*HILLS)
        self.same([-2, 2, -6, 6, -4, 0],
                  [route_price(net, route) for route in ([0, 3, 5], (0, 3, 4), [0, 2, 4], [1, 3, 4], (0, 3), [4])])

    def test_cheapest_or_not(self):
        net = Net(*HILLS)
        self.assertIs(True, is_cheapest(net, [0, 2, 4]))
        self.assertIs(False, is_cheapest(net, [0, 3, 4]))
        self.assertIs(True, is_cheapest(net, (1, 3, 4)))
        self.assertIs(True, is_cheapest(net, [5]))

    def test_all_routes_of_any_net(self):
        for widths, roads in random_nets(11, 40, prices=(-2, 0, 1)):
            net = Net(widths, roads)
            cheapest = cheapest_of(widths, roads)
            for ends, routes in routes_of(widths, roads).items():
                for route in routes:
                    self.same(route, check_route(net, list(route)))
                    self.same(price_in(roads, route), route_price(net, route))
                    self.assertIs(route in cheapest[ends], is_cheapest(net, list(route)))

    def test_the_empty_list(self):
        self.wrong(Net(*DIAMOND), [], 0)

    def test_an_integer_that_is_no_place(self):
        net = Net(*DIAMOND)
        for other in (-1, -4, 4, 5, FAR, -FAR):
            self.wrong(net, [other], 0)
            self.wrong(net, [other, 1, 3], 0)
            self.wrong(net, [0, other, 3], 1)
            self.wrong(net, [0, 1, other], 2)
            self.wrong(net, [0, 1, 3, other], 3)

    def test_a_step_without_a_road(self):
        net = Net(*LADDER)
        self.wrong(net, [0, 4], 1)
        self.wrong(net, [0, 1, 5, 6], 2)
        self.wrong(net, [0, 1, 4, 5], 3)
        self.wrong(net, [1, 2], 1)
        self.wrong(net, [0, 1, 5, 1, 0], 2)

    def test_a_place_twice_and_a_route_turned_round(self):
        net = Net(*LADDER)
        self.wrong(net, [0, 0], 1)
        self.wrong(net, [0, 1, 1, 4], 2)
        self.wrong(net, [6, 4, 1, 0], 1)
        self.wrong(net, [0, 1, 0], 2)


class LeastPriceTest(GuideCase):
    """Points 12 and 13."""

    def test_least_prices(self):
        net = Net(*HILLS)
        self.same(-6, least_price(net, 0, 4))
        self.same(-2, least_price(net, 0, 5))
        self.same(6, least_price(net, 1, 4))
        self.same(0, least_price(net, 1, 3))

    def test_a_place_and_itself(self):
        for place in range(6):
            net = Net(*HILLS)
            self.same(0, least_price(net, place, place))
            self.same([], cheap_next_places(net, place, place))
            self.same((place,), leftmost_route(net, place, place))

    def test_places_that_no_route_joins(self):
        net = Net(*HILLS)
        for start, goal in ((1, 2), (2, 5), (4, 0), (0, 1), (3, 2), (5, 4)):
            self.assertIsNone(least_price(net, start, goal))
            self.same([], cheap_next_places(net, start, goal))
            self.refused(NoRoute, {"start": start, "goal": goal}, leftmost_route, net, start, goal)

    def test_integers_that_are_no_places(self):
        net = Net(*DIAMOND)
        for other in (-1, -4, 4, 5, FAR, -FAR):
            for start, goal in ((other, 3), (0, other), (other, other), (other, -other)):
                self.refused(NoRoute, {"start": start, "goal": goal}, leftmost_route, net, start, goal)

    def test_ties(self):
        net = Net(*LADDER)
        self.same(3, least_price(net, 0, 6))
        self.same([1, 2, 3], cheap_next_places(net, 0, 6))
        self.same([1, 2], cheap_next_places(net, 0, 4))
        self.same([2, 3], cheap_next_places(net, 0, 5))
        self.same((0, 1, 4, 6), leftmost_route(net, 0, 6))
        self.same((0, 2, 5), leftmost_route(net, 0, 5))
        self.same((2, 4, 6), leftmost_route(net, 2, 6))

    def test_a_dear_road_on_the_left_is_not_taken(self):
        widths, roads = LADDER
        net = Net(widths, [(start, end, 9 if (start, end) in ((0, 1), (4, 6)) else price)
                           for start, end, price in roads])
        self.same((0, 2, 5, 6), leftmost_route(net, 0, 6))
        self.same([2, 3], cheap_next_places(net, 0, 6))
        self.same([2], cheap_next_places(net, 0, 4))

    def test_a_cheap_first_road_does_not_make_a_cheap_route(self):
        net = Net([1, 2, 1], [(0, 1, 1), (0, 2, 2), (1, 3, 9), (2, 3, 1)])
        self.same([2], cheap_next_places(net, 0, 3))
        self.same((0, 2, 3), leftmost_route(net, 0, 3))
        self.same(3, least_price(net, 0, 3))

    def test_large_prices(self):
        net = Net([1, 2, 1], [(0, 1, FAR), (0, 2, -1000000), (1, 3, -FAR), (2, 3, 1000000)])
        self.same(0, least_price(net, 0, 3))
        self.same([1, 2], cheap_next_places(net, 0, 3))
        self.same([0, -FAR, 1000000, 0], price_table(net, 3))

    def test_any_net(self):
        for widths, roads in random_nets(12, 50, prices=(-1, 0, 1)):
            net = Net(widths, roads)
            cheapest = cheapest_of(widths, roads)
            for start in range(net.size):
                for goal in range(net.size):
                    self.check_ends(net, roads, cheapest.get((start, goal)), start, goal)

    def check_ends(self, net, roads, routes, start, goal):
        """Compare all answers for one start and goal with the list of their cheapest routes."""
        if routes is None:
            self.assertIsNone(least_price(net, start, goal))
            self.same([], cheap_next_places(net, start, goal))
            self.refused(NoRoute, {"start": start, "goal": goal}, leftmost_route, net, start, goal)
        else:
            self.same(price_in(roads, routes[0]), least_price(net, start, goal))
            self.same(sorted({route[1] for route in routes if start != goal}), cheap_next_places(net, start, goal))
            leftmost = leftmost_route(net, start, goal)
            self.same(routes[0], leftmost)
            for route in routes:
                self.assertTrue(all(left <= right for left, right in zip(leftmost, route)))


class TableTest(GuideCase):
    """Point 14."""

    def test_price_tables(self):
        net = Net(*HILLS)
        self.same([[0, None, None, None, None, None], [-6, 6, -9, 6, 0, None], [-2, 2, None, 2, None, 0]],
                  [price_table(net, goal) for goal in (0, 4, 5)])

    def test_a_right_table_shows_each_cheapest_route(self):
        for widths, roads in random_nets(14, 40, prices=(-1, 0, 1)):
            net = Net(widths, roads)
            for (_, goal), routes in cheapest_of(widths, roads).items():
                table = price_table(net, goal)
                for route in routes:
                    self.assertIs(True, table_shows(net, list(route), table))
                    self.assertIs(True, table_shows(net, route, tuple(table)))

    def test_no_table_shows_a_route_that_is_not_cheapest(self):
        net = Net(*HILLS)
        self.assertIs(False, table_shows(net, [0, 3, 4], price_table(net, 4)))
        self.assertIs(False, table_shows(net, [0, 3, 4], [2, 6, -9, 6, 0, None]))

    def test_an_entry_is_changed(self):
        net = Net([1, 2, 1], [(0, 1, 5), (0, 2, 7), (1, 3, 4), (2, 3, 4)])
        self.assertIs(True, table_shows(net, [0, 1, 3], [9, 4, 4, 0]))
        for table in ([10, 4, 4, 0], [8, 4, 4, 0], [9, 3, 4, 0], [9, 5, 4, 0], [9, 4, 5, 0], [9, 4, 4, 1],
                      [10, 5, 5, 1], [8, 3, 3, -1]):
            self.assertIs(False, table_shows(net, [0, 1, 3], table))

    def test_an_entry_beside_the_route_may_be_too_low_but_not_by_too_much(self):
        net = Net([1, 2, 1], [(0, 1, 5), (0, 2, 7), (1, 3, 4), (2, 3, 4)])
        self.assertIs(True, table_shows(net, [0, 1, 3], [9, 4, 2, 0]))
        self.assertIs(False, table_shows(net, [0, 1, 3], [9, 4, 1, 0]))

    def test_none_among_the_entries(self):
        net = Net([1, 2, 1], [(0, 1, 5), (0, 2, 7), (1, 3, 4), (2, 3, 4)])
        for table in ([None, 4, 4, 0], [9, None, 4, 0], [9, 4, None, 0], [9, 4, 4, None], [None] * 4):
            self.assertIs(False, table_shows(net, [0, 1, 3], table))
        self.assertIs(False, table_shows(net, [2], [None, None, 0, None]))

    def test_a_place_from_which_no_road_leads_to_an_integer_may_have_any_entry(self):
        net = Net([1, 2], [(0, 1, 5)])
        for entry in (None, 0, 77, -FAR):
            self.assertIs(True, table_shows(net, [0, 1], [5, 0, entry]))

    def test_an_entry_too_many_or_too_few(self):
        net = Net(*DIAMOND)
        for table in ([9, 4, 4, 0, 0], [9, 4, 4, 0, None], [9, 4, 4], [0], []):
            self.assertIs(False, table_shows(net, [0, 1, 3], table))
        # Here the entries that the route asks for are all there.
        self.assertIs(False, table_shows(Net([1, 2], [(0, 1, 5)]), [0, 1], [5, 0]))

    def test_lists_that_are_no_route(self):
        net = Net(*DIAMOND)
        for route in ([], [4], [-1], [0, 3], [3, 1, 0], [0, 0], [0, 1, 3, 4], [-4, 1, 3], [0, 1, -1], [FAR], [0, -FAR]):
            self.assertIs(False, table_shows(net, route, [9, 4, 4, 0]))
            self.assertIs(False, table_shows(net, tuple(route), []))
        self.assertIs(False, table_shows(Net([2], []), [0, 1], [0, 0]))

    def test_one_place_needs_a_zero(self):
        net = Net(*DIAMOND)
        self.assertIs(True, table_shows(net, [3], [9, 4, 4, 0]))
        self.assertIs(True, table_shows(net, [0], [0, None, None, None]))
        self.assertIs(False, table_shows(net, [0], [1, None, None, None]))
        self.assertIs(False, table_shows(net, [0], [None, None, None, None]))

    def test_any_table(self):
        rng = random.Random(15)
        told = {True: 0, False: 0}
        for widths, roads in random_nets(16, 60, most_rows=4, most_places=3):
            net = Net(widths, roads)
            for (_, goal), routes in routes_of(widths, roads).items():
                table = price_table(net, goal)
                at = rng.randrange(net.size)
                table[at] = rng.choice([None, 0, -1, 1, (table[at] or 0) + 1, (table[at] or 0) - 1])
                right = self.shows(widths, roads, routes[0], table)
                self.assertIs(right, table_shows(net, routes[0], table))
                told[right] += 1
        self.assertGreater(min(told.values()), 50)

    def shows(self, widths, roads, route, table):
        """Point 14 for a route and a table of the right length."""
        if table[route[-1]] != 0:
            return False
        for start, end, price in roads:
            if table[end] is not None and (table[start] is None or table[start] > price + table[end]):
                return False
            if (start, end) in list(zip(route, route[1:])):
                if table[start] is None or table[end] is None or table[start] != price + table[end]:
                    return False
        return True


if __name__ == "__main__":
    unittest.main()
