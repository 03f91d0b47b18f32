"""Points 31 to 34: books from left to right, the leftmost and the rightmost one, meets and joins."""

import random
import unittest

from meetonce.errors import BadRoute, Conflict, NoBooks, NotABook, NotCheapest, WrongNet
from meetonce.filling import fill
from meetonce.nets import Net, with_road, without_road
from meetonce.order import is_left, join_of, leftmost, meet_of, rightmost
from tests.samples import (DIAMOND, LADDER, GuideCase, all_books, book_from, books_of, keeps, left_of, small_nets,
                           some_parts)


def greatest(routes):
    """The one of the books that all of them are nowhere right of."""
    return [one for one in routes if all(left_of(other, one) for other in routes)]


def least(routes):
    """The one of the books that is nowhere right of all of them."""
    return [one for one in routes if all(left_of(one, other) for other in routes)]


def other_nets(net):
    """Nets that differ from LADDER: another price, a road less, a road more, other widths."""
    return [with_road(net, 0, 1, 7), without_road(net, 3, 5), Net([2, 3, 2, 1], []),
            Net([1, 3, 2, 1, 1], list(net.roads)), Net([3, 1, 2, 1], [])]


class IsLeftTest(GuideCase):
    """Point 31."""

    def test_two_books(self):
        left, right = all_books(*DIAMOND)
        self.same([True, False], [is_left(left, right), is_left(right, left)])
        self.same([True, True], [is_left(left, left), is_left(right, fill(right.net, [(0, 2, 3)]))])

    def test_neither_is_left_of_the_other(self):
        net = Net(*LADDER)
        first, second = fill(net, [(0, 1, 4), (0, 3, 5)]), fill(net, [(0, 2, 4), (0, 2, 5)])
        self.same([False, False], [is_left(first, second), is_left(second, first)])

    def test_other_nets(self):
        book = fill(Net(*LADDER))
        for net in other_nets(book.net):
            self.refused(WrongNet, {"index": 1}, is_left, book, fill(net))
            self.refused(WrongNet, {"index": 1}, is_left, fill(net), book)
        self.same(True, is_left(book, fill(Net(LADDER[0], reversed(LADDER[1])))))

    def test_against_slow_answers(self):
        for widths, roads, books in small_nets(3101, 10, most=40):
            net = Net(widths, roads)
            made = [book_from(net, routes) for routes in books]
            for first, one in zip(books, made):
                self.same([left_of(first, second) for second in books], [is_left(one, two) for two in made])


class LeftmostTest(GuideCase):
    """Point 32."""

    def test_without_wishes(self):
        left, right = all_books(*DIAMOND)
        self.assertTrue(leftmost(left.net) == left)
        self.assertTrue(rightmost(left.net) == right)
        self.same(((0, 1, 4, 6), (0, 3, 5, 6)),
                  (leftmost(Net(*LADDER)).route(0, 6), rightmost(Net(*LADDER), ()).route(0, 6)))

    def test_with_wishes(self):
        net = Net(*LADDER)
        self.same((0, 2, 5, 6), leftmost(net, [[0, 2, 5, 6]]).route(0, 6))
        self.same((0, 2, 5, 6), rightmost(net, ((0, 2, 5, 6),)).route(0, 6))
        self.same([(0, 1, 4), (0, 2, 4)],
                  [leftmost(net, [(0, 2, 5)]).route(0, 4), rightmost(net, [(0, 2, 5)]).route(0, 4)])
        self.same([(0, 2, 4, 6), (0, 3, 5)],
                  [rightmost(net, [[2, 4, 6], (0, 2, 4, 6), [2]]).route(0, 6), rightmost(net, [[6]]).route(0, 5)])

    def test_nets_with_one_book(self):
        for net in (Net([1], []), Net([2, 1], [(0, 2, 3)]), Net([1, 2, 1], [(0, 1, 1), (0, 2, 1), (1, 3, 1)])):
            self.assertTrue(leftmost(net) == rightmost(net) == fill(net))

    def test_wishes_are_checked(self):
        net = Net(*LADDER)
        for call in (leftmost, rightmost):
            self.refused(BadRoute, {"index": 1, "at": 1}, call, net, [[0, 1], (0, 4)])
            self.refused(NotCheapest, {"index": 0, "cheaper": (0, 1, 4)}, call, with_road(net, 0, 2, 2), [[0, 2, 4]])
            self.refused(Conflict, {"first": 0, "second": 1, "split": 0, "meeting": 4}, call, net,
                         [[0, 1, 4], [0, 2, 4]])

    def test_against_slow_answers(self):
        rng = random.Random(32)
        for widths, roads, books in small_nets(3201, 25) + [(*LADDER, books_of(*LADDER))]:
            net = Net(widths, roads)
            for _ in range(6):
                wishes = some_parts(rng, rng.choice(books))
                keeping = [routes for routes in books if all(keeps(routes, wish) for wish in wishes)]
                self.same(least(keeping), [leftmost(net, wishes).routes])
                self.same(greatest(keeping), [rightmost(net, wishes).routes])


class MeetTest(GuideCase):
    """Points 33 and 34."""

    def test_two_books(self):
        left, right = all_books(*DIAMOND)
        for books in ([left, right], (right, left), [left, right, left], [right, right, left]):
            self.assertTrue(meet_of(books) == left)
            self.assertTrue(join_of(books) == right)

    def test_one_book_and_the_same_one_twice(self):
        for book in all_books(*LADDER):
            for books in ([book], (book,), [book, book], [book] * 250):
                self.assertTrue(meet_of(books) == book)
                self.assertTrue(join_of(books) == book)

    def test_the_leftmost_routes_pair_by_pair_are_no_book(self):
        net = Net(*LADDER)
        first, second = fill(net, [(0, 1, 4), (0, 2, 5, 6)]), fill(net, [(0, 2, 4, 6)])
        with self.assertRaises(NotABook):
            book_from(net, [min(both) for both in zip(first.routes, second.routes)])
        self.same([(0, 1, 4), (2, 4, 6), (0, 1, 4, 6)],
                  [meet_of([first, second]).route(*pair) for pair in ((0, 4), (2, 6), (0, 6))])

    def test_the_rightmost_routes_pair_by_pair_are_no_book(self):
        net = Net(*LADDER)
        first, second = fill(net, [(0, 3, 5), (0, 2, 4, 6)]), fill(net, [(0, 2, 5, 6)])
        with self.assertRaises(NotABook):
            book_from(net, [max(both) for both in zip(first.routes, second.routes)])
        self.same([(0, 3, 5), (2, 5, 6), (0, 3, 5, 6)],
                  [join_of([first, second]).route(*pair) for pair in ((0, 5), (2, 6), (0, 6))])

    def test_no_books(self):
        for call in (meet_of, join_of):
            self.refused(NoBooks, {}, call, [])
            self.refused(NoBooks, {}, call, ())

    def test_other_nets(self):
        book = fill(Net(*LADDER))
        for net in other_nets(book.net):
            wrong = fill(net)
            for call in (meet_of, join_of):
                self.refused(WrongNet, {"index": 1}, call, [book, wrong])
                self.refused(WrongNet, {"index": 1}, call, [wrong, book])
                self.refused(WrongNet, {"index": 3}, call, (book, book, book, wrong, wrong, book))
                self.refused(WrongNet, {"index": 2}, call, (wrong, wrong, book, wrong))

    def test_against_slow_answers(self):
        rng = random.Random(33)
        for widths, roads, books in small_nets(3301, 25) + [(*LADDER, books_of(*LADDER))]:
            net = Net(widths, roads)
            for _ in range(8):
                some = [rng.choice(books) for _ in range(rng.choice([1, 2, 2, 2, 3, 4]))]
                below = [routes for routes in books if all(left_of(routes, one) for one in some)]
                above = [routes for routes in books if all(left_of(one, routes) for one in some)]
                made = [book_from(net, routes) for routes in some]
                self.same(greatest(below), [meet_of(made).routes])
                self.same(least(above), [join_of(made).routes])


if __name__ == "__main__":
    unittest.main()
