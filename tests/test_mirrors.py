"""Point 56: nets with left and right exchanged, and nets upside down."""

import random
import unittest

from meetonce.filling import fill
from meetonce.mirrors import mirrored, mirrored_book, mirrored_route, turned, turned_book, turned_route
from meetonce.nets import Net
from meetonce.order import join_of, leftmost, meet_of, rightmost
from meetonce.prices import route_price
from meetonce.tables import tables_of
from tests.samples import (DIAMOND, LADDER, GuideCase, book_from, books_of, parts_of, random_nets, routes_of, rows_of,
                           small_nets)


def mirrored_place(widths, place):
    """The image of a place with left and right exchanged, by the words of point 56."""
    row = rows_of(widths)[place]
    first = sum(widths[:row])
    return first + widths[row] - 1 - (place - first)


def turned_place(widths, place):
    """The image of a place upside down, by the words of point 56."""
    row = rows_of(widths)[place]
    column = place - sum(widths[:row])
    return sum(widths[row + 1:]) + column


def mirrored_places(widths, route):
    """The image of a route with left and right exchanged."""
    return tuple(mirrored_place(widths, place) for place in route)


def turned_places(widths, route):
    """The image of a route upside down, read from its other end."""
    return tuple(turned_place(widths, place) for place in reversed(route))


class MirrorsTest(GuideCase):
    """Nets and routes."""

    NETS = ([2], []), ([3, 1], [(0, 3, -2), (2, 3,
                                             7)]), DIAMOND, LADDER, ([1, 4, 2], [(0, 1, 3), (0, 4, -1), (1, 5, 0)])

    def test_mirrored_nets(self):
        self.same((0, 1, 1000000), mirrored(Net([1, 1], [(0, 1, 1000000)])).roads[0])
        net = mirrored(Net([1, 4, 2], [(0, 1, 3), (0, 4, -1), (1, 5, 0), (2, 6, 8), (4, 6, -1000000)]))
        self.same((1, 4, 2), net.widths)
        self.same(((0, 1, -1), (0, 4, 3), (1, 5, -1000000), (3, 5, 8), (4, 6, 0)), net.roads)
        self.same(((3,), ()), (mirrored(Net([3], [])).widths, mirrored(Net([3], [])).roads))

    def test_turned_nets(self):
        net = turned(Net([1, 4, 2], [(0, 1, 3), (0, 4, -1), (1, 5, 0), (2, 6, 8), (4, 6, -1000000)]))
        self.same((2, 4, 1), net.widths)
        self.same(((0, 2, 0), (1, 3, 8), (1, 5, -1000000), (2, 6, 3), (5, 6, -1)), net.roads)
        self.same(((3,), ()), (turned(Net([3], [])).widths, turned(Net([3], [])).roads))

    def test_routes(self):
        net = Net([1, 4, 2], [(0, 1, 3), (0, 4, -1), (1, 5, 0), (4, 6, 5)])
        self.same([(0, 4, 6), (0, 1), (1, 5), (0,), (4,), (1,), (5,)],
                  [mirrored_route(net, route) for route in ((0, 1, 5), [0, 4], (4, 6), [0], (1,), [4], (6,))])
        self.same([(0, 2, 6), (5, 6), (1, 5), (6,), (2,), (5,), (1,)],
                  [turned_route(net, route) for route in ((0, 1, 5), [0, 4], (4, 6), [0], (1,), [4], (6,))])

    def test_each_function_gives_back_what_was_passed_in(self):
        for widths, roads in list(self.NETS) + random_nets(5601, 40, prices=(-3, 0, 1)):
            net = Net(widths, roads)
            self.assertTrue(mirrored(mirrored(net)) == net)
            self.assertTrue(turned(turned(net)) == net)
            self.assertTrue(turned(mirrored(net)) == mirrored(turned(net)))
            for routes in routes_of(widths, roads).values():
                for route in routes:
                    self.same(route, mirrored_route(mirrored(net), mirrored_route(net, route)))
                    self.same(route, turned_route(turned(net), turned_route(net, route)))
            book = fill(net, choices=[1, 0, 1, 1])
            self.assertTrue(mirrored_book(mirrored_book(book)) == book)
            self.assertTrue(turned_book(turned_book(book)) == book)

    def test_against_slow_answers(self):
        for widths, roads in list(self.NETS) + random_nets(5602, 40, prices=(-3, 0, 1)):
            net = Net(widths, roads)
            self.same((tuple(widths), tuple(sorted((*mirrored_places(widths, road[:2]), road[2]) for road in roads))),
                      (mirrored(net).widths, mirrored(net).roads))
            self.same((tuple(widths[::-1]), tuple(sorted((*turned_places(widths, road[:2]), road[2])
                                                         for road in roads))),
                      (turned(net).widths, turned(net).roads))
            for routes in routes_of(widths, roads).values():
                for route in routes:
                    self.same(mirrored_places(widths, route), mirrored_route(net, list(route)))
                    self.same(turned_places(widths, route), turned_route(net, list(route)))
                    self.same(route_price(net, route), route_price(mirrored(net), mirrored_route(net, route)))
                    self.same(route_price(net, route), route_price(turned(net), turned_route(net, route)))


class BooksTest(GuideCase):
    """Books of mirrored and of turned nets."""

    def test_small_books(self):
        book = fill(Net(*LADDER), [(0, 2, 5, 6), (0, 1, 4)])
        self.same([(0, 2, 4, 6), (0, 3, 5), (0, 2, 4)],
                  [mirrored_book(book).route(*pair) for pair in ((0, 6), (0, 5), (0, 4))])
        self.same([(0, 2, 4, 6), (1, 3, 6), (2, 4, 6), (0, 2, 4)],
                  [turned_book(book).route(*pair) for pair in ((0, 6), (1, 6), (2, 6), (0, 4))])
        self.same(((), ()), (mirrored_book(fill(Net([2], []))).routes, turned_book(fill(Net([2], []))).routes))

    def test_against_slow_answers(self):
        for widths, roads, books in small_nets(5603, 12, prices=(-1, 0), most=60) + [(*LADDER, books_of(*LADDER))]:
            net = Net(widths, roads)
            for routes in books[::5]:
                book = book_from(net, routes)
                for change, image, changed in ((mirrored_book, mirrored_places, mirrored(net)),
                                               (turned_book, turned_places, turned(net))):
                    answer = change(book)
                    self.assertTrue(answer.net == changed)
                    self.same(sorted(image(widths, route) for route in routes), sorted(answer.routes))

    def test_leftmost_and_rightmost_books(self):
        for widths, roads, books in small_nets(5604, 12, most=60) + [(*LADDER, books_of(*LADDER))]:
            net = Net(widths, roads)
            self.assertTrue(mirrored_book(leftmost(net)) == rightmost(mirrored(net)))
            self.assertTrue(mirrored_book(rightmost(net)) == leftmost(mirrored(net)))
            self.assertTrue(turned_book(leftmost(net)) == leftmost(turned(net)))
            self.assertTrue(turned_book(rightmost(net)) == rightmost(turned(net)))
            wish = parts_of(books[0][-1])[-1]
            self.assertTrue(mirrored_book(leftmost(net, [wish])) ==
                            rightmost(mirrored(net), [mirrored_route(net, wish)]))

    def test_meets_and_joins(self):
        rng = random.Random(56)
        for widths, roads, books in small_nets(5605, 12, most=60) + [(*LADDER, books_of(*LADDER))] * 4:
            net = Net(widths, roads)
            some = [book_from(net, rng.choice(books)) for _ in range(rng.randint(1, 3))]
            mirrors, turns = [mirrored_book(book) for book in some], [turned_book(book) for book in some]
            self.assertTrue(mirrored_book(meet_of(some)) == join_of(mirrors))
            self.assertTrue(mirrored_book(join_of(some)) == meet_of(mirrors))
            self.assertTrue(turned_book(meet_of(some)) == meet_of(turns))
            self.assertTrue(turned_book(join_of(some)) == join_of(turns))

    def test_tables_of_turned_books(self):
        for widths, roads, books in small_nets(5606, 8, most=60) + [(*LADDER, books_of(*LADDER))]:
            net = Net(widths, roads)
            for routes in books[::7]:
                book = book_from(net, routes)
                after, before, least = tables_of(book)
                turned_after, turned_before, turned_least = tables_of(turned_book(book))
                for start in range(net.size):
                    for goal in range(net.size):
                        new_start, new_goal = turned_places(widths, (start, goal))
                        self.same([None if place is None else turned_place(widths, place)
                                   for place in (before[start][goal], after[start][goal])],
                                  [turned_after[new_start][new_goal], turned_before[new_start][new_goal]])
                        self.same(least[start][goal], turned_least[new_start][new_goal])


if __name__ == "__main__":
    unittest.main()
