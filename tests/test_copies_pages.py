"""Points 2 and 3 for pins, pages, lots and mirrors."""

import unittest

from meetonce.errors import NotKept, TooMany
from meetonce.filling import fill
from meetonce.intervals import Interval, interval_of
from meetonce.lots import best_lot, lot_holds
from meetonce.mirrors import mirrored, mirrored_book, mirrored_route, turned, turned_book, turned_route
from meetonce.nets import Net
from meetonce.order import leftmost, rightmost
from meetonce.pages import count_pages, next_page, page_number, pages
from meetonce.pins import another_book, essence, loose_pairs, open_pairs, pins
from tests.copies import CopiesTests, facts
from tests.samples import DIAMOND, LADDER, GuideCase


def calls():
    """Functions with their arguments, new each time; what is a list holds lists wherever it can."""
    net = Net(*LADDER)
    book = fill(net, [(0, 1, 4), (0, 3, 5)])
    routes = [[0, 1, 4], [2], [0, 1, 4], [0, 3, 5]]
    whole = interval_of(net)
    lot_routes = [[1, 4, 6], [2, 4, 6], [3, 5, 6], [2, 5, 6], [1, 4, 6]]
    return [(open_pairs, book), (loose_pairs, book, routes), (loose_pairs, book, []),
            (pins, book, [list(route) for route in routes]),
            (pins, book, [list(route) for route in book.routes]), (another_book, book, [[0, 1, 4]]),
            (another_book, book, [list(route) for route in book.routes]), (essence, book),
            (next_page, whole, book), (next_page, whole, whole.upper), (count_pages, whole),
            (page_number, whole, book), (best_lot, lot_routes, [3, 1, 2, 2, 5]), (best_lot, [], []),
            (lot_holds, [list(route) for route in lot_routes], [3, 1, 2, 2, 5], *best_lot(lot_routes, [3, 1, 2, 2, 5])),
            (lot_holds, [list(route) for route in lot_routes], [3, 1, 2, 2, 5], [0, 4], [1, 1, 1, 1, 1]),
            (mirrored, net), (turned, net), (mirrored_route, net, [0, 1, 4]), (turned_route, net, [0, 1, 4]),
            (mirrored_book, book), (turned_book, book)]


class ListsTest(CopiesTests, GuideCase):
    """Point 2."""

    def calls(self):
        """The calls that the shared tests look at."""
        return calls()

    def test_pages_in_lists_may_be_changed(self):
        interval = interval_of(Net(*LADDER))
        every = list(pages(interval))
        told = [facts(page) for page in every]
        every.reverse()
        every.pop()
        self.same(told, [facts(page) for page in pages(interval)])

    def test_a_lot_keeps_nothing_of_its_routes(self):
        routes, worths = [[0, 1], [0, 2]], [1, 2]
        lot, marks = best_lot(routes, worths)
        routes[0].append(3)
        worths[0] = 7
        self.same(([0, 1], [1, 3]), (lot, marks))

    def test_kinds_of_the_answers(self):
        left, right = leftmost(Net(*DIAMOND)), rightmost(Net(*DIAMOND))
        self.same(([(0, 3)], [(0, 3)], []), (open_pairs(left), loose_pairs(left, []), loose_pairs(left, [[0, 1, 3]])))
        self.same((False, True, ((0, 1, 3),)), (pins(left, []), pins(left, [[0, 1, 3]]), essence(left)))
        self.same((2, 1), (count_pages(Interval(left, right)), page_number(Interval(left, right), right)))
        self.same((([1], [1, 4]), True), (best_lot([[0, 1, 3], [0, 2, 3]], [1, 4]),
                                          lot_holds([[0, 1, 3], [0, 2, 3]], [1, 4], [1], [1, 4])))
        self.same(((0, 2, 3), (0, 1, 3)), (mirrored_route(left.net, [0, 1, 3]), turned_route(left.net, [0, 1, 3])))


class LimitsTest(GuideCase):
    """Point 3."""

    def tall_net(self):
        """More rows, places and roads and a higher price than the document's limits."""
        roads = []
        for row in range(13):
            for column in range(4):
                start = 4 * row + column
                roads.append((start, start + 4, -3 * 10 ** 9))
                if column < 3:
                    roads.append((start, start + 5, -3 * 10 ** 9))
        return Net([4] * 14, roads)

    def test_larger_nets_lists_and_limits_are_not_refused(self):
        net = self.tall_net()
        book = fill(net, choices=[1, 0, 2] * 100)
        self.same(True, pins(book, list(book.routes) * 2))
        self.assertTrue(fill(net, essence(book)) == book)
        self.assertIsNone(another_book(book, book.routes))
        self.same(3, count_pages(interval_of(net), limit=3))
        self.same(0, page_number(Interval(book, book), book, limit=10 ** 30))
        self.same(1, count_pages(Interval(book, book), limit=10 ** 30))
        self.assertTrue(mirrored_book(mirrored_book(book)) == book)
        self.assertTrue(turned_book(turned_book(book)) == book)

    def test_longer_lots_and_greater_worths_are_not_refused(self):
        routes = [(number // 3, 100 + number // 3) for number in range(150)]
        lot, marks = best_lot(routes, [10 ** 30] * 150)
        self.same((list(range(150)), 150 * 10 ** 30), (lot, max(marks)))
        self.same(True, lot_holds(routes, [10 ** 30] * 150, lot, marks))

    def test_integers_that_are_no_places(self):
        book = fill(Net(*DIAMOND))
        for other in (-1, -4, 4, 40, 10 ** 59, -10 ** 59):
            for route in ([other], [other, other], [0, other], [other, 3], [0, 1, other]):
                for call in (loose_pairs, pins, another_book):
                    self.refused(NotKept, {"index": 1}, call, book, [[0, 1], route])

    def test_errors_tell_the_limit_that_was_passed(self):
        interval = interval_of(Net(*DIAMOND))
        self.refused(TooMany, {"limit": 1}, lambda: page_number(interval, interval.upper, limit=1))


if __name__ == "__main__":
    unittest.main()
