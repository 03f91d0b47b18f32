"""Points 54 and 55: lots, their marks, and what shows that no lot is worth more."""

import random
import unittest
from itertools import combinations

from meetonce.lots import best_lot, lot_holds
from tests.samples import GuideCase, conflict_of, random_net, routes_of


def comes_before(routes, one, two):
    """Point 54, word by word."""
    first, second = tuple(routes[one]), tuple(routes[two])
    if first == second:
        return one < two
    return all(a <= b for a, b in zip(first, second)) and conflict_of(first, second) is None


def marks_of(routes, worths):
    """The mark of each route, from the words of point 54."""
    marks = {}

    def mark(index):
        if index not in marks:
            before = [mark(other) for other in range(len(routes)) if comes_before(routes, other, index)]
            marks[index] = worths[index] + max(before, default=0)
        return marks[index]

    return [mark(index) for index in range(len(routes))]


def lots_of(routes):
    """All lots, each as an ascending tuple of indexes."""
    return [chosen for many in range(len(routes) + 1) for chosen in combinations(range(len(routes)), many)
            if all(comes_before(routes, one, two) or comes_before(routes, two, one)
                   for one, two in combinations(chosen, 2))]


def holds_by_words(routes, worths, lot, marks):
    """Point 55, word by word."""
    indexes = range(len(routes))
    if any(index not in indexes for index in lot) or any(one >= two for one, two in zip(lot, lot[1:])):
        return False
    if tuple(lot) not in lots_of(routes) or len(marks) != len(routes):
        return False
    if any(mark < worth for mark, worth in zip(marks, worths)):
        return False
    if any(comes_before(routes, one, two) and marks[two] - worths[two] < marks[one]
           for one in indexes for two in indexes):
        return False
    return sum(worths[index] for index in lot) == max(marks, default=0)


def some_routes(rng, most=6):
    """Routes of some net that start in one row and have the same number of places, and their worths."""
    while True:
        widths, roads = random_net(rng)
        every = routes_of(widths, roads)
        start = rng.choice(range(widths[0]))
        many = rng.randint(1, len(widths))
        rows = range(widths[0]) if rng.random() < 0.7 else [start]
        found = [route for ends, routes in every.items() for route in routes
                 if ends[0] in rows and len(route) == many]
        if found:
            routes = [rng.choice(found) for _ in range(rng.randint(0, most))]
            return [rng.choice([list, tuple])(route) for route in routes], [rng.randint(0, 3) for _ in routes]


class BestLotTest(GuideCase):
    """Points 54 and 55: `best_lot`."""

    def check(self, routes, worths):
        """The marks are those of the point, the lot is a lot, and no lot is worth more."""
        lot, marks = best_lot(routes, worths)
        self.same(marks_of(routes, worths), marks)
        self.assertIsInstance(lot, list)
        lots = lots_of(routes)
        self.assertIn(tuple(lot), lots)
        worth = sum(worths[index] for index in lot)
        self.same(max(sum(worths[index] for index in other) for other in lots), worth)
        self.same(max(marks, default=0), worth)
        self.same(True, lot_holds(routes, worths, lot, marks))
        return lot, marks

    def test_no_routes(self):
        self.same(([], []), best_lot([], []))
        self.same(([], []), best_lot((), ()))

    def test_one_route(self):
        self.same(([0], [7]), best_lot([(0, 1, 3)], [7]))
        self.same(([0], [1000000]), best_lot([[5]], (1000000,)))
        self.check([(0, 1, 3)], [0])

    def test_equal_routes(self):
        self.same(([0, 1, 2], [2, 5, 9]), best_lot([(0, 1, 3), [0, 1, 3], (0, 1, 3)], [2, 3, 4]))
        self.same(([0, 1, 2, 3], [5, 1, 6, 8]), best_lot([(1,), (0,), (1,), (1,)], [4, 1, 1, 2]))
        self.check([(0, 2, 3), (0, 2, 3)], [0, 0])

    def test_routes_that_conflict(self):
        self.same(([1], [2, 3]), best_lot([(0, 1, 3), (0, 2, 3)], [2, 3]))
        self.same(([0], [3, 2]), best_lot([(0, 2, 3), (0, 1, 3)], [3, 2]))
        self.same(([0, 3], [3, 1, 4, 5]), best_lot([(0, 1, 4), (0, 2, 4), (0, 2, 5), (0, 3, 5)], [3, 1, 1, 2]))
        self.check([(0, 1, 4, 6), (0, 2, 4, 6), (0, 2, 5, 6), (0, 3, 5, 6)], [1, 2, 3, 2])

    def test_routes_that_are_beside_one_another_in_either_order(self):
        for routes, worths in (([(0, 3), (1, 3), (2, 5)], [1, 2, 4]), ([(2, 5), (1, 3), (0, 3)], [4, 2, 1])):
            lot, marks = self.check(routes, worths)
            self.same([0, 1, 2], lot)
            self.same([1, 3, 7], sorted(marks))
        self.same(([0, 1, 2], [7, 3, 1]), best_lot([(2, 5), (1, 3), (0, 3)], [4, 2, 1]))

    def test_routes_that_cross(self):
        # They share the place 2, and each is left of the other on one side of it.
        self.same(([1], [4, 5]), best_lot([(0, 2, 4), (1, 2, 3)], [4, 5]))
        self.same(([0], [4, 3]), best_lot([(0, 2, 4), (1, 2, 3)], [4, 3]))
        self.check([(0, 2, 4), (1, 2, 3), (0, 2, 3), (1, 2, 4)], [2, 2, 1, 1])

    def test_worths_of_nothing(self):
        lot, marks = self.check([(0, 1, 3), (0, 2, 3), (0, 1, 3)], [0, 0, 0])
        self.same([0, 0, 0], marks)
        self.check([(0,), (1,), (2,)], [0, 5, 0])
        self.check([(0,), (1,), (2,)], [0, 0, 5])
        self.check([(0, 3), (1, 3), (1, 4), (2, 4)], [3, 0, 0, 2])

    def test_against_all_selections(self):
        rng = random.Random(54)
        for _ in range(300):
            self.check(*some_routes(rng))

    def test_routes_with_one_start_or_one_goal_only_need_not_conflict(self):
        rng = random.Random(5401)
        for _ in range(200):
            routes, _ = some_routes(rng)
            if len({route[0] for route in routes}) == 1 or len({route[-1] for route in routes}) == 1:
                for one, two in combinations(range(len(routes)), 2):
                    self.same(conflict_of(tuple(routes[one]), tuple(routes[two])) is None,
                              (one, two) in lots_of(routes))
                self.check(routes, [rng.randint(0, 9) for _ in routes])


class LotHoldsTest(GuideCase):
    """Point 55: `lot_holds`."""

    ROUTES = ((0, 3, 6), (1, 4, 7), (0, 4, 7), (1, 4, 7), (2, 5, 7))
    WORTHS = (3, 2, 9, 1, 4)

    def test_the_answer_of_best_lot(self):
        lot, marks = best_lot(self.ROUTES, self.WORTHS)
        self.same(([0, 1, 2, 3, 4], [3, 14, 12, 15, 19]), (lot, marks))
        self.same(True, lot_holds(self.ROUTES, self.WORTHS, lot, marks))
        self.same(True, lot_holds(list(map(list, self.ROUTES)), list(self.WORTHS), tuple(lot), tuple(marks)))

    def test_lots_that_are_wrong(self):
        marks = [3, 14, 12, 15, 19]
        for lot in ([0, 1, 1, 2, 3, 4], [1, 0, 2, 3, 4], [0, 1, 2, 4, 3], [0, 1, 2, 3, 5], [-1, 0, 1, 2, 3],
                    [-5, -4, -3, -2, -1], [0, 1, 2, 3, 4, 5], [0, 1, 2, 3], [1, 2, 3, 4], [], [10 ** 59], [-10 ** 59]):
            self.same(False, lot_holds(self.ROUTES, self.WORTHS, lot, marks))

    def test_marks_that_are_wrong(self):
        lot = [0, 1, 2, 3, 4]
        for marks in ([], [3, 14, 12, 15], [3, 14, 12, 15, 19, 0], [2, 14, 12, 15, 19], [4, 14, 12, 15, 19],
                      [3, 13, 12, 15, 19], [3, 15, 12, 15, 19], [3, 14, 11, 15, 19], [3, 14, 13, 15, 19],
                      [3, 14, 12, 14, 19], [3, 14, 12, 16, 19], [3, 14, 12, 15, 18], [3, 14, 12, 15, 20],
                      [-10 ** 59, 14, 12, 15, 19], [3, 14, 12, 15, 10 ** 59]):
            self.same(False, lot_holds(self.ROUTES, self.WORTHS, lot, marks))

    def test_marks_may_be_greater_where_they_show_the_same(self):
        routes, worths = [(0, 1, 3), (0, 2, 3)], [2, 5]
        self.same([True, True, False, False],
                  [lot_holds(routes, worths, [1], marks) for marks in ([2, 5], [5, 5], [6, 5], [1, 5])])

    def test_two_routes_of_which_neither_comes_before_the_other(self):
        self.same(False, lot_holds([(0, 1, 3), (0, 2, 3)], [2, 3], [0, 1], [2, 5]))
        self.same(False, lot_holds([(0, 1, 3), (0, 2, 3)], [2, 3], [0, 1], [5, 3]))
        self.same(False, lot_holds([(0, 2, 4), (1, 2, 3)], [2, 3], [0, 1], [2, 5]))
        # Neighbours in the list are beside one another, but the first and the last one conflict.
        self.same(False, lot_holds([(0, 2, 4), (1, 3, 4), (0, 2, 5)], [1, 0, 1], [0, 1, 2], [1, 1, 2]))

    def test_a_sum_that_is_too_small(self):
        self.same([True, False, False], [lot_holds([(0,), (1,)], [2, 3], lot, [2, 5]) for lot in ([0, 1], [0], [1])])
        self.same(False, lot_holds([(0,), (1,)], [2, 3], [0, 1], [3, 6]))
        self.same(False, lot_holds([(0,)], [2], [], [2]))

    def test_empty_lists(self):
        self.same(True, lot_holds([], [], [], []))
        self.same(True, lot_holds((), (), (), ()))
        for lot, marks in (([0], []), ([-1], []), ([], [0]), ([], [5]), ([0], [0])):
            self.same(False, lot_holds([], [], lot, marks))
        self.same([True, True, False], [lot_holds([(0,)], [0], lot, marks)
                                        for lot, marks in (([], [0]), ([0], [0]), ([], [-1]))])

    def test_any_lists_of_integers(self):
        rng = random.Random(55)
        held = 0
        for _ in range(1500):
            routes, worths = some_routes(rng, most=4)
            lot, marks = best_lot(routes, worths)
            for values in rng.choice([[lot], [marks], [lot, marks]]):
                for _ in range(rng.randint(0, 2)):
                    at = rng.randint(0, len(values))
                    values[at:at + rng.randint(0, 1)] = [rng.randint(-3, 6)] * rng.randint(0, 1)
            expected = holds_by_words(routes, worths, lot, marks)
            self.same(expected, lot_holds(routes, worths, lot, marks))
            held += expected
        self.assertTrue(200 < held < 1300)


if __name__ == "__main__":
    unittest.main()
