"""Points 49 to 51: open pairs, routes that pin a book, and the essence of a book."""

import random
import unittest

from meetonce.changes import turn
from meetonce.errors import NotKept
from meetonce.filling import fill
from meetonce.nets import Net, with_road
from meetonce.pins import another_book, essence, loose_pairs, open_pairs, pins
from tests.samples import (DIAMOND, LADDER, GuideCase, admissible_of, all_books, book_from, books_of, cheapest_of,
                           keeps, pairs_of, parts_of, small_nets, some_parts)

FAR = 10 ** 59


def open_of(widths, roads, routes):
    """The open pairs of the book with these routes and their admissible places, by the words of point 49."""
    cheapest = cheapest_of(widths, roads)
    kept = {(place, place): (place,) for place in range(sum(widths))}
    kept.update({(route[0], route[-1]): route for route in routes})
    places = {pair: admissible_of(cheapest, kept, *pair) for pair in pairs_of(widths, roads)}
    return {pair: found for pair, found in places.items() if len(found) > 1}


def loose_of(open_places, routes, given):
    """The open pairs whose route is no part of any of the given routes."""
    parts = [part for route in given for part in parts_of(tuple(route))]
    kept = {(route[0], route[-1]): route for route in routes}
    return [pair for pair in open_places if kept[pair] not in parts]


class OpenPairsTest(GuideCase):
    """Point 50, the open pairs."""

    def test_none_one_and_several(self):
        self.same([], open_pairs(fill(Net([3], []))))
        self.same([], open_pairs(fill(with_road(Net(*DIAMOND), 0, 1, 4))))
        self.same([[(0, 3)], [(0, 3)]], [open_pairs(book) for book in all_books(*DIAMOND)])
        self.same([(0, 4), (0, 5), (2, 6)], open_pairs(fill(Net(*LADDER))))
        self.same([(0, 4), (0, 5), (2, 6), (0, 6)], open_pairs(fill(Net(*LADDER), choices=[0, 1, 1])))

    def test_against_slow_answers(self):
        for widths, roads, books in small_nets(5001, 12):
            for routes in books[::7]:
                self.same(list(open_of(widths, roads, routes)), open_pairs(book_from(Net(widths, roads), routes)))


class PinsTest(GuideCase):
    """Points 49 and 50: loose pairs, pins and another book."""

    def check(self, book, routes, loose):
        """The three functions tell that just these pairs are loose."""
        self.same(loose, loose_pairs(book, routes))
        self.same(not loose, pins(book, routes))
        another = another_book(book, routes)
        if not loose:
            self.assertIsNone(another)
        else:
            start, goal = loose[0]
            others = [place for place in book.admissible(start, goal) if place != book.next_place(start, goal)]
            self.assertTrue(another == turn(book, start, goal, others[0]))
            self.assertEqual(others[0], another.next_place(start, goal))
            self.assertTrue(all(route in another for route in routes))

    def test_books_without_open_pairs(self):
        book = fill(with_road(Net(*DIAMOND), 0, 1, 4))
        for routes in ([], [(0, 1, 3)], [[0, 2], [2, 3], [1]]):
            self.check(book, routes, [])
        self.check(fill(Net([2], [])), [[1], [0], [0]], [])

    def test_one_open_pair(self):
        for book in all_books(*DIAMOND):
            own = book.route(0, 3)
            self.check(book, [], [(0, 3)])
            self.check(book, [own[:2], own[1:], (0,), [3]], [(0, 3)])
            self.check(book, [own], [])
            self.check(book, ((3,), own[1:], list(own), own), [])

    def test_several_open_pairs(self):
        book = fill(Net(*LADDER), [(0, 2, 5, 6), (0, 1, 4)])
        self.check(book, [], [(0, 4), (0, 5), (2, 6), (0, 6)])
        self.check(book, [[0, 1, 4]], [(0, 5), (2, 6), (0, 6)])
        self.check(book, [(2, 5, 6)], [(0, 4), (0, 5), (0, 6)])
        self.check(book, [(0, 2, 5, 6)], [(0, 4)])
        self.check(book, [(0, 2, 5), (0, 2, 5, 6), (0, 2, 5, 6)], [(0, 4)])
        self.check(book, [(0, 2, 5), (0, 1, 4), (2, 5, 6)], [(0, 6)])
        self.check(book, [(0, 2, 5, 6), (4,), (0, 1, 4)], [])
        self.check(book, book.routes, [])

    def test_another_book_takes_the_leftmost_other_place(self):
        three = Net([1, 3, 1], [(0, 1, 0), (0, 2, 0), (0, 3, 0), (1, 4, 0), (2, 4, 0), (3, 4, 0)])
        self.same([(0, 2, 4), (0, 1, 4), (0, 1, 4)],
                  [another_book(fill(three, [(0, place, 4)]), []).route(0, 4) for place in (1, 2, 3)])

    def test_routes_that_are_not_kept(self):
        book = fill(Net(*LADDER), [(0, 2, 5, 6), (0, 1, 4)])
        wrong = [[], (), (0, 2, 4), (0, 4), (6, 5), (7,), (-1,), [FAR], (FAR, -FAR), (0, 0), (0, 1, 4, 5),
                 (0, 2, 5, 6, 6)]
        for route in wrong:
            for call in (loose_pairs, pins, another_book):
                self.refused(NotKept, {"index": 0}, call, book, [route])
                self.refused(NotKept, {"index": 2}, call, book, [(0, 1, 4), [5], route, (0, 2, 4)])
                self.refused(NotKept, {"index": 4}, call, book, list(book.routes[:4]) + [route])
        # A book without open pairs looks at the routes as well.
        for call in (loose_pairs, pins, another_book):
            self.refused(NotKept, {"index": 0}, call, fill(Net([2], [])), [(0, 1)])

    def test_against_slow_answers(self):
        rng = random.Random(50)
        for widths, roads, books in small_nets(5002, 12, most=60) + [(*LADDER, books_of(*LADDER))]:
            net = Net(widths, roads)
            for routes in rng.sample(books, min(len(books), 8)):
                given = some_parts(rng, routes, most=6)
                book = book_from(net, routes)
                self.check(book, given, loose_of(open_of(widths, roads, routes), routes, given))
                # The definition itself: no other book keeps all the routes.
                keeping = [other for other in books if all(keeps(other, route) for route in given)]
                self.same(keeping == [routes], pins(book, given))
                if len(keeping) > 1:
                    self.assertIn(another_book(book, given).routes, keeping)


class EssenceTest(GuideCase):
    """Point 51."""

    def test_small_books(self):
        self.same((), essence(fill(Net([3], []))))
        self.same((), essence(fill(with_road(Net(*DIAMOND), 0, 1, 4))))
        self.same([((0, 1, 3),), ((0, 2, 3),)], [essence(book) for book in all_books(*DIAMOND)])

    def test_routes_that_are_parts_of_others_are_left_out(self):
        net = Net(*LADDER)
        self.same(((0, 1, 4), (0, 2, 5, 6)), essence(fill(net, [(0, 2, 5, 6), (0, 1, 4)])))
        self.same(((0, 3, 5), (2, 4, 6), (0, 1, 4, 6)), essence(fill(net, [(0, 3, 5), (2, 4, 6), (0, 1, 4)])))
        # From 0 to 6 is not open in this book, so the route 0 2 4 6 is not in the essence.
        self.same(((0, 2, 4), (0, 2, 5), (2, 4, 6)), essence(fill(net, choices=[1, 0, 0])))

    def test_against_slow_answers(self):
        rng = random.Random(51)
        for widths, roads, books in small_nets(5101, 12, most=60) + [(*LADDER, books_of(*LADDER))]:
            net = Net(widths, roads)
            for routes in rng.sample(books, min(len(books), 8)):
                book = book_from(net, routes)
                open_places = open_of(widths, roads, routes)
                open_routes = [route for route in routes if (route[0], route[-1]) in open_places]
                self.same(tuple(route for route in open_routes
                                if not any(route in parts_of(other) for other in open_routes if other != route)),
                          essence(book))
                self.check(book, books)
                for _ in range(3):
                    choices = [rng.randrange(7) for _ in range(rng.randrange(20))]
                    self.assertTrue(fill(net, essence(book), choices=choices) == book)

    def check(self, book, books):
        """The essence pins the book, and without any one of its routes it does not."""
        found = essence(book)
        self.same(True, pins(book, found))
        self.same([book.routes], [other for other in books if all(route in other for route in found)])
        for at in range(len(found)):
            fewer = found[:at] + found[at + 1:]
            self.same(False, pins(book, fewer))
            self.assertGreater(len([other for other in books if all(route in other for route in fewer)]), 1)


if __name__ == "__main__":
    unittest.main()
