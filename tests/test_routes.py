"""Points 17 to 19: two routes side by side."""

import unittest

from meetonce.routes import beside, conflict, is_part, nowhere_right, shared_places
from tests.samples import LADDER, GuideCase, conflict_of, parts_of, random_nets, routes_of, rows_of

FAR = 10 ** 59
# Routes of a net with rows of two places: 0 1, 2 3, 4 5 and so on, in which any step to the next row is there
# that the test needs.
LEFT = (0, 2, 4, 6, 8)


class ConflictTest(GuideCase):
    """Points 17 and 18."""

    def both(self, answer, first, second):
        """The answer must be the same in both orders, for lists and for tuples."""
        for one, other in ((first, second), (second, first)):
            self.same(answer, conflict(tuple(one), tuple(other)))
            self.same(answer, conflict(list(one), list(other)))
            self.same(answer, conflict(list(one), tuple(other)))

    def test_the_example_of_the_interface(self):
        self.same((0, 3), conflict((0, 1, 3), (0, 2, 3)))

    def test_nothing_is_shared(self):
        self.both(None, LEFT, (1, 3, 5, 7, 9))
        self.both(None, (0, 2), (4, 6))
        self.both(None, (0,), (1,))

    def test_one_place_is_shared(self):
        self.both(None, LEFT, (1, 3, 4, 7, 9))
        self.both(None, LEFT, (0, 3, 5, 7, 9))
        self.both(None, LEFT, (1, 3, 5, 7, 8))
        self.both(None, (0, 2), (2, 4))
        self.both(None, (4,), LEFT)

    def test_a_common_part(self):
        self.both(None, LEFT, (0, 2, 4, 7, 9))
        self.both(None, LEFT, (1, 2, 4, 6, 9))
        self.both(None, LEFT, (1, 3, 4, 6, 8))

    def test_routes_that_part_and_meet_once(self):
        self.both((0, 4), LEFT, (0, 3, 4, 6, 8))
        self.both((0, 8), LEFT, (0, 3, 5, 7, 8))
        self.both((2, 6), LEFT, (0, 2, 5, 6, 9))
        self.both((2, 8), LEFT, (1, 2, 5, 7, 8))

    def test_routes_that_part_and_meet_twice(self):
        self.both((0, 4), LEFT, (0, 3, 4, 7, 8))
        self.both((0, 4), (0, 2, 4, 6, 8, 10, 12), (0, 3, 4, 6, 8, 11, 12))

    def test_routes_that_part_for_good_behind_a_conflict(self):
        self.both((0, 4), (0, 2, 4, 6, 8), (0, 3, 4, 7, 9))
        self.both((4, 8), (0, 2, 4, 6, 8), (1, 3, 4, 7, 8))

    def test_routes_of_different_lengths(self):
        self.both((2, 6), (0, 2, 4, 6, 8), (2, 5, 6))
        self.both(None, (0, 2, 4, 6, 8), (4, 6))
        self.both(None, (0, 2, 4), (4, 6, 8))
        self.both(None, (0, 2, 4, 7), (4, 6, 8))

    def test_a_route_with_itself_and_its_parts(self):
        for part in parts_of(LEFT):
            self.both(None, LEFT, part)

    def test_shared_places(self):
        for kind in (list, tuple):
            self.same((0, 4, 8), shared_places(kind((0, 2, 4, 6, 8)), kind((0, 3, 4, 7, 8))))
            self.same((), shared_places(kind((0, 2)), kind((1, 3))))
            self.same((4,), shared_places(kind((0, 2, 4)), kind((4, 6))))
            self.same(LEFT, shared_places(kind(LEFT), LEFT))
            self.same((9, 10), shared_places(kind((9, 10)), kind((8, 9, 10))))

    def test_all_routes_of_any_net(self):
        told = {True: 0, False: 0}
        for widths, roads in random_nets(17, 25, most_places=3):
            routes = [route for several in routes_of(widths, roads).values() for route in several][:60]
            for first in routes:
                for second in routes:
                    answer = conflict(first, second)
                    self.same(conflict_of(first, second), answer)
                    shared = shared_places(first, second)
                    self.same(tuple(sorted(set(first) & set(second))), shared)
                    # The other way to say it, in point 17.
                    parts = set(parts_of(first)) & set(parts_of(second))
                    self.assertEqual(answer is None, not shared or shared in parts)
                    told[answer is None] += 1
        self.assertGreater(min(told.values()), 50)


class IsPartTest(GuideCase):
    """`is_part` of point 18."""

    def told(self, answer, part, route):
        """The answer for lists and tuples."""
        for kind in (list, tuple):
            for other in (list, tuple):
                self.assertIs(answer, is_part(kind(part), other(route)))

    def test_parts(self):
        for part in parts_of(LEFT):
            self.told(True, part, LEFT)

    def test_the_empty_list_is_no_part(self):
        self.told(False, [], LEFT)
        self.told(False, [], [])

    def test_entries_that_do_not_follow_one_another_directly(self):
        self.told(False, [0, 4], LEFT)
        self.told(False, [0, 2, 6], LEFT)
        self.told(False, [2, 0], LEFT)
        self.told(False, [8, 0], LEFT)
        self.told(False, [4, 4], LEFT)

    def test_entries_that_are_not_there(self):
        self.told(False, [5], LEFT)
        self.told(False, [6, 8, 10], LEFT)
        self.told(False, [-1], LEFT)
        self.told(False, LEFT + (10,), LEFT)
        self.told(False, (-2,) + LEFT, LEFT)
        self.told(False, [0], [])

    def test_any_lists_of_integers(self):
        self.told(True, [7, 7, 3], [7, 7, 7, 3, -5])
        self.told(True, [1, 2], [1, 1, 2])
        self.told(False, [7, 3, 7], [7, 7, 7, 3, -5])
        self.told(True, [-5], [7, 7, 7, 3, -5])
        self.told(True, [FAR, -FAR], [3, FAR, -FAR, 3])
        self.told(False, [-FAR, FAR], [3, FAR, -FAR, 3])
        self.told(False, [12], [1, 2, 112])


class OrderTest(GuideCase):
    """Point 19."""

    def told(self, right, side_by_side, first, second):
        """The answers of `nowhere_right` and `beside`, for lists and tuples."""
        for kind in (list, tuple):
            self.assertIs(right, nowhere_right(kind(first), second))
            self.assertIs(right, nowhere_right(first, kind(second)))
            self.assertIs(side_by_side, beside(kind(first), second))
            self.assertIs(side_by_side, beside(first, kind(second)))

    def test_routes_that_touch(self):
        self.told(True, True, (0, 2, 4), (0, 3, 5))
        self.told(False, False, (0, 3, 5), (0, 2, 4))
        self.told(True, True, (0, 2, 4), (1, 2, 5))
        self.told(False, False, (1, 2, 5), (0, 2, 4))
        self.told(True, True, (0, 2, 4), (1, 3, 4))

    def test_routes_that_do_not_touch(self):
        self.told(True, True, (0, 2, 4), (1, 3, 5))
        self.told(False, False, (1, 3, 5), (0, 2, 4))

    def test_equal_routes(self):
        self.told(True, True, (0, 2, 4), (0, 2, 4))
        self.told(True, True, (3,), (3,))

    def test_one_place(self):
        self.told(True, True, (2,), (3,))
        self.told(False, False, (3,), (2,))

    def test_routes_that_cross_at_a_shared_place(self):
        self.told(False, False, (0, 2, 5), (1, 2, 4))
        self.told(False, False, (1, 2, 4), (0, 2, 5))

    def test_routes_that_part_and_meet(self):
        self.told(True, False, (0, 2, 4), (0, 3, 4))
        self.told(False, False, (0, 3, 4), (0, 2, 4))
        self.told(True, False, (0, 2, 4, 6), (1, 2, 5, 6))

    def test_only_the_last_or_first_place_is_right(self):
        self.told(False, False, (0, 2, 5), (0, 2, 4))
        self.told(False, False, (1, 2, 4), (0, 2, 4))

    def test_all_routes_of_any_net(self):
        for widths, roads in random_nets(19, 20, most_places=3) + [LADDER]:
            rows = rows_of(widths)
            routes = [route for several in routes_of(widths, roads).values() for route in several][:50]
            for first in routes:
                for second in routes:
                    if rows[first[0]] == rows[second[0]] and len(first) == len(second):
                        right = all(one <= other for one, other in zip(first, second))
                        self.told(right, right and conflict_of(first, second) is None, first, second)


if __name__ == "__main__":
    unittest.main()
