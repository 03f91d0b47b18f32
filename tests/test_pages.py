"""Points 52 and 53: the pages of an interval."""

import inspect
import random
import unittest
from itertools import islice

from meetonce.errors import NotOrdered, TooMany, WrongNet
from meetonce.filling import fill
from meetonce.intervals import Interval, between, interval_of
from meetonce.nets import Net, with_road, without_road
from meetonce.order import join_of, leftmost, meet_of
from meetonce.pages import count_pages, next_page, page_number, pages
from tests.samples import (DIAMOND, LADDER, GuideCase, all_books, book_from, books_of, cheapest_of, conflict_of,
                           left_of,
                           pairs_of, small_nets, some_parts)


# The second places for the pairs 0 4, 0 5, 2 6 and 0 6 in all books of LADDER; the other pairs have no choice.
LADDER_PAGES = [(1, 2, 4, 1), (1, 2, 5, 1), (1, 2, 5, 2), (1, 3, 4, 1), (1, 3, 4, 3), (1, 3, 5, 1), (1, 3, 5, 3),
                (2, 2, 4, 2), (2, 2, 5, 2), (2, 3, 4, 2), (2, 3, 4, 3), (2, 3, 5, 3)]


def places_at_open_pairs(book):
    """The second places of a book of LADDER, as in the list above."""
    return tuple(book.next_place(*pair) for pair in ((0, 4), (0, 5), (2, 6), (0, 6)))


def ladder_book(places):
    """The book of LADDER with these second places."""
    return next(book for book in all_books(*LADDER) if places_at_open_pairs(book) == places)


def seconds(routes):
    """The second places of a book in filling order; they compare as point 52 orders the pages."""
    return [route[1] for route in routes]


def pages_of(lower, books, upper):
    """Those of the books that lie between the two, in the order of point 52."""
    return sorted([routes for routes in books if left_of(lower, routes) and left_of(routes, upper)], key=seconds)


def some_interval(rng, net, books):
    """An interval of the net."""
    one, two, three = [book_from(net, rng.choice(books)) for _ in range(3)]
    return Interval(meet_of([one, two]), join_of([two, three]))


def wide_interval():
    """All books of a net with very many books."""
    roads = []
    for row in range(9):
        for column in range(4):
            start = 4 * row + column
            roads.append((start, start + 4, 0))
            if column < 3:
                roads.append((start, start + 5, 0))
    return interval_of(Net([4] * 10, roads))


def counted(interval, limit):
    """`count_pages` with all arguments by position."""
    return count_pages(interval, limit=limit)


def numbered(interval, book, limit):
    """`page_number` with all arguments by position."""
    return page_number(interval, book, limit=limit)


class NextPageTest(GuideCase):
    """Point 52, page by page."""

    def test_two_pages(self):
        left, right = all_books(*DIAMOND)
        interval = Interval(left, right)
        self.assertTrue(next_page(interval, left) == right)
        self.assertIsNone(next_page(interval, right))

    def test_one_page(self):
        for book in all_books(*LADDER) + [fill(Net([2], []))]:
            self.assertIsNone(next_page(Interval(book, book), book))

    def test_each_page_of_a_small_net(self):
        whole = interval_of(Net(*LADDER))
        book = whole.lower
        for places in LADDER_PAGES:
            self.same(places, places_at_open_pairs(book))
            book = next_page(whole, book)
        self.assertIsNone(book)

    def test_the_ends_of_the_interval_bound_the_places(self):
        net = Net(*LADDER)
        lower, upper = fill(net, [(0, 2, 4)]), fill(net, [(0, 3, 5), (0, 2, 4), (2, 4, 6)])
        interval = Interval(lower, upper)
        page = next_page(interval, lower)
        self.assertTrue(page in interval)
        self.same([(0, 2, 4), (0, 3, 5), (2, 4, 6), (0, 2, 4, 6)],
                  [page.route(*pair) for pair in ((0, 4), (0, 5), (2, 6), (0, 6))])
        self.assertIsNone(next_page(interval, page))

    def test_books_of_other_nets(self):
        net = Net(*LADDER)
        whole = interval_of(net)
        for other in (with_road(net, 0, 1, 7), without_road(net, 3, 5), Net([2, 3, 2, 1], []),
                      Net([1, 3, 2, 1, 1], list(net.roads))):
            self.refused(WrongNet, {"index": 1}, next_page, whole, fill(other))
            self.refused(WrongNet, {"index": 1}, page_number, whole, fill(other))
            self.refused(WrongNet, {"index": 1}, numbered, whole, fill(other), 1)
        again = Net(LADDER[0], reversed(LADDER[1]))
        self.assertTrue(next_page(whole, leftmost(again)) == next_page(whole, leftmost(net)))

    def test_books_that_are_not_in_the_interval(self):
        for lower, upper, outside, start, goal in (
                ((2, 2, 4, 2), (2, 2, 5, 2), (1, 2, 4, 1), 0, 4), ((2, 2, 4, 2), (2, 2, 5, 2), (2, 3, 5, 3), 0, 5),
                ((2, 2, 4, 2), (2, 2, 5, 2), (1, 3, 5, 3), 0, 4), ((1, 2, 5, 1), (1, 3, 5, 3), (1, 3, 4, 1), 2, 6),
                ((1, 3, 4, 1), (1, 3, 5, 1), (1, 3, 5, 3), 0, 6), ((1, 3, 4, 1), (1, 3, 5, 1), (1, 2, 5, 2), 0, 5),
                ((1, 2, 5, 1), (1, 2, 5, 1), (1, 2, 5, 2), 0, 6), ((1, 2, 5, 2), (1, 2, 5, 2), (1, 2, 5, 1), 0, 6)):
            interval, book = Interval(ladder_book(lower), ladder_book(upper)), ladder_book(outside)
            for call, *limits in ((next_page,), (page_number,), (numbered, 1)):
                self.refused(NotOrdered, {"start": start, "goal": goal}, call, interval, book, *limits)
        left, right = all_books(*DIAMOND)
        self.refused(NotOrdered, {"start": 0, "goal": 3}, next_page, Interval(left, left), right)
        self.refused(NotOrdered, {"start": 0, "goal": 3}, next_page, Interval(right, right), left)
        self.refused(NotOrdered, {"start": 0, "goal": 3}, numbered, Interval(right, right), left, 1)

    def test_against_slow_answers(self):
        rng = random.Random(52)
        for widths, roads, books in small_nets(5201, 12, most=60) + [(*LADDER, books_of(*LADDER))]:
            net = Net(widths, roads)
            for _ in range(3):
                interval = some_interval(rng, net, books)
                expected = pages_of(interval.lower.routes, books, interval.upper.routes)
                self.same(expected, [page.routes for page in pages(interval)])
                self.check_each_book(interval, books, expected)

    def check_each_book(self, interval, books, expected):
        """The next page and the number of each page, and the error for each other book of the net."""
        net = interval.lower.net
        after = dict(zip(expected, expected[1:] + [None]))
        for routes in books:
            book = book_from(net, routes)
            if routes not in after:
                outside = [pair for pair, low, route, high in zip(net.pairs, interval.lower.routes, routes,
                                                                  interval.upper.routes)
                           if not left_of([low], [route]) or not left_of([route], [high])]
                fields = {"start": outside[0][0], "goal": outside[0][1]}
                self.refused(NotOrdered, fields, next_page, interval, book)
                self.refused(NotOrdered, fields, numbered, interval, book, 1)
            elif after[routes] is None:
                self.assertIsNone(next_page(interval, book))
            else:
                self.same(after[routes], next_page(interval, book).routes)


class PagesTest(GuideCase):
    """Point 52, all pages."""

    def test_the_order_of_the_pages(self):
        left, right = all_books(*DIAMOND)
        self.assertTrue(list(pages(Interval(left, right))) == [left, right])
        self.assertTrue(list(pages(Interval(right, right))) == [right])
        interval = interval_of(Net(*LADDER))
        found = list(pages(interval))
        self.assertTrue(found[0] == interval.lower and found[-1] == interval.upper)
        self.same(LADDER_PAGES, [places_at_open_pairs(page) for page in found])
        self.same(sorted(books_of(*LADDER), key=seconds), [page.routes for page in found])

    def test_a_book_left_of_another_one_comes_earlier(self):
        found = [page.routes for page in pages(interval_of(Net(*LADDER)))]
        for at, page in enumerate(found):
            self.assertFalse(any(left_of(later, page) for later in found[at + 1:]))

    def test_it_is_a_generator_that_looks_for_no_page_too_many(self):
        self.assertTrue(inspect.isgeneratorfunction(pages))
        interval = wide_interval()
        page = interval.lower
        for each in islice(pages(interval), 4):
            self.assertTrue(each == page)
            page = next_page(interval, page)

    def test_a_generator_that_is_stopped(self):
        interval = interval_of(Net(*LADDER))
        every = list(pages(interval))
        for stop in range(len(every) + 1):
            self.assertTrue(list(islice(pages(interval), stop)) == every[:stop])
        self.assertTrue(list(pages(interval)) == every)

    def test_two_generators_in_turn(self):
        interval = interval_of(Net(*LADDER))
        every = list(pages(interval))
        one, two = pages(interval), pages(interval)
        next(two)
        for first, second in zip(one, two):
            at = every.index(first)
            self.assertTrue(second == every[at + 1])

    def test_choices_select_pages(self):
        rng = random.Random(5202)
        interval = interval_of(Net(*LADDER), [(0, 2, 4)])
        every = list(pages(interval))
        for _ in range(20):
            self.assertIn(between(interval, choices=[rng.randrange(4) for _ in range(6)]), every)


class CountTest(GuideCase):
    """Point 53."""

    def test_counts_and_limits(self):
        left, right = all_books(*DIAMOND)
        self.same([1, 2, 2, 2], [counted(Interval(left, right), limit) for limit in (1, 2, 3, 1000)])
        self.same([1, 1], [counted(Interval(left, left), limit) for limit in (1, 2)])
        whole = interval_of(Net(*LADDER))
        many = len(books_of(*LADDER))
        self.same([1, many - 1, many, many, many],
                  [counted(whole, limit) for limit in (1, many - 1, many, many + 1, 10 ** 9)])
        self.same(many, count_pages(whole))

    def test_numbers_and_limits(self):
        whole = interval_of(Net(*LADDER))
        for number, page in enumerate(list(pages(whole))):
            self.same(number, page_number(whole, page))
            self.same(number, numbered(whole, page, number + 1))
            self.same(number, numbered(whole, page, number + 2))
            for limit in {1, number - 1, number}:
                if 1 <= limit <= number:
                    self.refused(TooMany, {"limit": limit}, numbered, whole, page, limit)

    def test_a_great_number_of_pages(self):
        interval = wide_interval()
        self.same([1, 2, 30], [counted(interval, limit) for limit in (1, 2, 30)])
        self.refused(TooMany, {"limit": 5}, numbered, interval, interval.upper, 5)
        self.refused(TooMany, {"limit": 1}, numbered, interval, interval.upper, 1)
        self.same(0, numbered(interval, interval.lower, 1))

    def test_the_limit_is_a_thousand_if_none_is_passed(self):
        # Ten diamonds side by side, each of which turns by itself.
        roads = [road for at in range(10) for middle in (10 + 2 * at, 11 + 2 * at)
                 for road in ((at, middle, 0), (middle, 30 + at, 0))]
        interval = interval_of(Net([10, 20, 10], roads))
        self.same((1000, 1001, 1024), (count_pages(interval), counted(interval, 1001), counted(interval, 10 ** 9)))
        self.refused(TooMany, {"limit": 1000}, page_number, interval, interval.upper)
        self.same(1023, numbered(interval, interval.upper, 1024))
        every = list(pages(interval))
        self.same(999, page_number(interval, every[999]))
        self.refused(TooMany, {"limit": 1000}, page_number, interval, every[1000])

    def test_the_sum_over_the_possible_routes(self):
        rng = random.Random(53)
        for widths, roads, books in small_nets(5301, 8, most=60):
            net, cheapest = Net(widths, roads), cheapest_of(widths, roads)
            wishes = some_parts(rng, rng.choice(books), most=2)
            many = count_pages(interval_of(net, wishes))
            for pair in pairs_of(widths, roads):
                possible = [route for route in cheapest[pair]
                            if not any(conflict_of(route, tuple(wish)) for wish in wishes)]
                self.same(many, sum(count_pages(interval_of(net, list(wishes) + [route])) for route in possible))

    def test_against_slow_answers(self):
        rng = random.Random(5302)
        for widths, roads, books in small_nets(5303, 12, most=60):
            net = Net(widths, roads)
            interval = some_interval(rng, net, books)
            expected = pages_of(interval.lower.routes, books, interval.upper.routes)
            self.same(len(expected), count_pages(interval))
            for number, routes in enumerate(expected):
                self.same(number, page_number(interval, book_from(net, routes)))

    def test_limits_are_passed_by_name(self):
        left, right = all_books(*DIAMOND)
        with self.assertRaises(TypeError):
            count_pages(Interval(left, right), 5)
        with self.assertRaises(TypeError):
            page_number(Interval(left, right), left, 5)


if __name__ == "__main__":
    unittest.main()
