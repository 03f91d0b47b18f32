"""Points 57 to 61: bands, sides, their books, and joining them."""

import random
import unittest

from meetonce.errors import BadCuts, BadRoute, NotCheapest, NotKept, NotThrough, WrongNet
from meetonce.filling import fill
from meetonce.nets import Net, with_road, without_road
from meetonce.order import join_of, leftmost, meet_of, rightmost
from meetonce.prices import least_price
from meetonce.regions import (band, band_book, band_places, join_bands, join_sides, side, side_book, side_places)
from tests.samples import (DIAMOND, LADDER, GuideCase, book_from, books_of, cheapest_of, left_of, random_nets, rows_of,
                           small_nets)

FAR = 10 ** 59


def band_of(widths, low, high):
    """The places of a band."""
    return [place for place, row in enumerate(rows_of(widths)) if low <= row <= high]


def side_of(widths, route, left):
    """The places of a side, by the words of point 59."""
    rows = rows_of(widths)
    return [place for place, row in enumerate(rows) if (place <= route[row] if left else place >= route[row])]


def net_of(widths, roads, places):
    """The widths and roads of the net of these places."""
    rows = [rows_of(widths)[place] for place in places]
    inner = [(places.index(start), places.index(end), price) for start, end, price in sorted(roads)
             if start in places and end in places]
    return tuple(rows.count(row) for row in sorted(set(rows))), tuple(inner)


def routes_within(routes, places):
    """The routes of a book between two of the places, with the numbers of the places' own net."""
    return [tuple(places.index(place) for place in route) for route in routes
            if route[0] in places and route[-1] in places]


def routes_without(book, places):
    """The routes of a book of the places' own net, with the numbers of the whole net."""
    return [tuple(places[number] for number in route) for route in book.routes]


def leftmost_with(books, routes):
    """The routes of the leftmost one of the books that keep all the routes."""
    keeping = [one for one in books if set(routes) <= set(one)]
    return [one for one in keeping if all(left_of(one, other) for other in keeping)][0]


def through_routes(widths, roads):
    """All cheapest through routes."""
    rows = rows_of(widths)
    return [route for ends, routes in cheapest_of(widths, roads).items() for route in routes
            if rows[ends[0]] == 0 and rows[ends[1]] == len(widths) - 1]


def side_book_with(book, route, left):
    """`side_book` with all arguments by position."""
    return side_book(book, route, left=left)


class BandTest(GuideCase):
    """Point 57."""

    def test_places_and_nets(self):
        net = Net(*LADDER)
        self.same([[0], [1, 2, 3], [1, 2, 3, 4, 5], [6], list(range(7))],
                  [band_places(net, *rows) for rows in ((0, 0), (1, 1), (1, 2), (3, 3), (0, 3))])
        self.same(((3, 2), ((0, 3, 1), (1, 3, 1), (1, 4, 1), (2, 4, 1))),
                  (band(net, 1, 2).widths, band(net, 1, 2).roads))
        self.same(((2,), ()), (band(net, 2, 2).widths, band(net, 2, 2).roads))
        self.assertTrue(band(net, 0, 3) == net)
        self.same([0, 1, 2], band_places(Net([3], []), 0, 0))
        self.assertTrue(band(Net([3], []), 0, 0) == Net([3], []))

    def test_books(self):
        book = fill(Net(*LADDER), [(0, 2, 5, 6), (0, 1, 4)])
        self.same(((0, 3), (1, 3), (1, 4), (2, 4), (3, 5), (4, 5), (0, 3, 5), (1, 4, 5), (2, 4, 5)),
                  band_book(book, 1, 3).routes)
        self.assertTrue(band_book(book, 0, 3) == book)
        self.same(((), 1), (band_book(book, 3, 3).routes, band_book(book, 3, 3).net.size))

    def test_against_slow_answers(self):
        for widths, roads in random_nets(5701, 40, prices=(-2, 0, 1)):
            net = Net(widths, roads)
            book = fill(net, choices=[1, 0, 2, 1, 1])
            for low in range(len(widths)):
                for high in range(low, len(widths)):
                    places = band_of(widths, low, high)
                    self.same(places, band_places(net, low, high))
                    self.same(net_of(widths, roads, places), (band(net, low, high).widths, band(net, low, high).roads))
                    part = band_book(book, low, high)
                    self.assertTrue(part.net == band(net, low, high))
                    self.same(routes_within(book.routes, places), list(part.routes))


class JoinBandsTest(GuideCase):
    """Point 58."""

    def test_one_band_and_several(self):
        for routes in books_of(*LADDER):
            book = book_from(Net(*LADDER), routes)
            self.assertTrue(join_bands(book.net, [0, 3], [book]) == book)
            lower, upper = band_book(book, 0, 2), band_book(book, 2, 3)
            self.same([book.route(0, 4), book.route(0, 5)],
                      [join_bands(book.net, (0, 2, 3), (lower, upper)).route(*pair) for pair in ((0, 4), (0, 5))])
        net = Net(*LADDER)
        rows = [band_book(rightmost(net), row, row + 1) for row in range(3)]
        self.assertTrue(join_bands(net, [0, 1, 2, 3], rows) == leftmost(net))

    def test_the_leftmost_book_is_taken(self):
        net = Net(*LADDER)
        lower, upper = band_book(fill(net, [(0, 3, 5)]), 0, 2), band_book(fill(net, [(2, 5, 6)]), 2, 3)
        joined = join_bands(net, [0, 2, 3], [lower, upper])
        self.same([(0, 1, 4), (0, 3, 5), (2, 4, 6), (0, 1, 4, 6)],
                  [joined.route(*pair) for pair in ((0, 4), (0, 5), (2, 6), (0, 6))])

    def test_bad_cuts(self):
        net = Net(*LADDER)
        book = fill(net)
        two = [band_book(book, 0, 1), band_book(book, 1, 3)]
        for cuts in ([], [0], [3], [0, 1, 3, 3], [0, 0, 1, 3], [0, 3, 3], [0, 0, 3], [1, 2, 3], [0, 1, 2], [0, 1, 4],
                     [-1, 1, 3], [0, 3, 1], [3, 1, 0], [0, 3], [0, 1, 2, 3], [0, 5, 3], [0, -1, 3], [0, FAR, 3],
                     (0, 1)):
            self.refused(BadCuts, {}, join_bands, net, cuts, two)
        for books in ([], two[:1], two + [book], two + two, [book]):
            self.refused(BadCuts, {}, join_bands, net, [0, 1, 3], books)
        self.refused(BadCuts, {}, join_bands, net, [], [])
        self.refused(BadCuts, {}, join_bands, net, [0], [])
        # The cuts come before the nets.
        self.refused(BadCuts, {}, join_bands, net, [0, 1, 3], [book, book, book])

    def test_a_net_with_one_row_has_no_right_cuts(self):
        net = Net([2], [])
        for cuts, books in (([0], []), ([0, 0], [fill(net)]), ([], []), ([0], [fill(net)]), ([0, 1], [fill(net)])):
            self.refused(BadCuts, {}, join_bands, net, cuts, books)

    def test_books_of_other_nets(self):
        net = Net(*LADDER)
        lower, upper = band_book(fill(net), 0, 1), band_book(fill(net), 1, 3)
        dear = fill(with_road(lower.net, 0, 1, 9))
        self.refused(WrongNet, {"index": 0}, join_bands, net, [0, 1, 3], [upper, lower])
        self.refused(WrongNet, {"index": 0}, join_bands, net, [0, 1, 3], [dear, upper])
        self.refused(WrongNet, {"index": 1}, join_bands, net, [0, 1, 3], [lower, lower])
        self.refused(WrongNet, {"index": 1}, join_bands, net, [0, 1, 3], [lower, fill(without_road(upper.net, 0, 3))])
        self.refused(WrongNet, {"index": 0}, join_bands, net, [0, 3], [lower])
        self.refused(WrongNet, {"index": 0}, join_bands, net, [0, 1, 3], [fill(net), fill(net)])

    def test_against_slow_answers(self):
        rng = random.Random(58)
        for widths, roads, books in small_nets(5801, 30) + [(*LADDER, books_of(*LADDER))] * 4:
            net = Net(widths, roads)
            last = len(widths) - 1
            cuts = [0] + [row for row in range(1, last) if rng.random() < 0.5] + [last]
            if last == 0:
                continue
            bands, routes = [], []
            for low, high in zip(cuts, cuts[1:]):
                places = band_of(widths, low, high)
                band_net = Net(*net_of(widths, roads, places))
                bands.append(book_from(band_net, rng.choice(books_of(band_net.widths, band_net.roads))))
                routes += routes_without(bands[-1], places)
            self.same(leftmost_with(books, routes), join_bands(net, cuts, bands).routes)


class SideTest(GuideCase):
    """Point 59."""

    def test_places_and_nets(self):
        net = Net(*LADDER)
        self.same([0, 1, 2, 4, 6], side_places(net, [0, 2, 4, 6]))
        self.same([0, 1, 2, 4, 6], side_places(net, (0, 2, 4, 6), left=True))
        self.same([0, 2, 3, 4, 5, 6], side_places(net, (0, 2, 4, 6), left=False))
        self.same(((1, 2, 1, 1), ((0, 1, 1), (0, 2, 1), (1, 3, 1), (2, 3, 1), (3, 4, 1))),
                  (side(net, (0, 2, 4, 6)).widths, side(net, (0, 2, 4, 6)).roads))
        self.same(((1, 2, 2, 1), ((0, 1, 1), (0, 2, 1), (1, 3, 1), (1, 4, 1), (2, 4, 1), (3, 5, 1), (4, 5, 1))),
                  (side(net, [0, 2, 4, 6], left=False).widths, side(net, [0, 2, 4, 6], left=False).roads))

    def test_routes_on_the_border(self):
        net = Net(*LADDER)
        self.same([0, 1, 4, 6], side_places(net, (0, 1, 4, 6)))
        self.assertTrue(side(net, (0, 1, 4, 6), left=False) == net)
        self.same([0, 3, 5, 6], side_places(net, (0, 3, 5, 6), left=False))
        self.assertTrue(side(net, (0, 3, 5, 6)) == net)

    def test_one_row(self):
        net = Net([4], [])
        self.same([[0], [0, 1, 2, 3], [0, 1, 2], [2, 3]],
                  [side_places(net, [0]), side_places(net, [0], left=False), side_places(net, (2,)),
                   side_places(net, (2,), left=False)])
        self.same(((3,), (2,)), (side(net, [2]).widths, side(net, [2], left=False).widths))
        self.assertTrue(side_book(fill(net), [1], left=False) == fill(Net([3], [])))

    def test_errors_in_their_order(self):
        net = with_road(with_road(Net(*LADDER), 0, 2, 4), 1, 4, 0)
        for call in (side_places, side, lambda net, route: side_book(fill(net), route),
                     lambda net, route: join_sides(net, route, fill(net), fill(net)),
                     lambda net, route: side(net, route, left=False),
                     lambda net, route: side_book(fill(net), route, left=False),
                     lambda net, route: side_places(net, route, left=False)):
            for route, at in (([], 0), ((7,), 0), ((-1, 1), 0), ([0, 4], 1), ([0, 2, 4, 5], 3), ([0, 1, 5, 6], 2),
                              ((0, 2, 4, FAR), 3), ([0, 2, 4, 6, 6], 4), ([0, 0], 1)):
                self.refused(BadRoute, {"index": 0, "at": at}, call, net, route)
            for route in ((0,), [6], (0, 2), (2, 4, 6), (2, 4), [0, 2, 4]):
                self.refused(NotThrough, {}, call, net, route)
            self.refused(NotCheapest, {"index": 0, "cheaper": (0, 1, 4, 6)}, call, net, [0, 2, 4, 6])
        for route in ((2,), [9], (), (-1,)):
            self.refused(BadRoute, {"index": 0, "at": 0}, side, Net([2], []), route)

    def test_against_slow_answers(self):
        checked = 0
        for widths, roads in random_nets(5901, 60, prices=(-1, 0)):
            net = Net(widths, roads)
            for route in through_routes(widths, roads):
                for left in (True, False):
                    places = side_of(widths, route, left)
                    self.same(places, side_places(net, route, left=left))
                    part = side(net, list(route), left=left)
                    self.same(net_of(widths, roads, places), (part.widths, part.roads))
                    for start in range(part.size):
                        for goal in range(part.size):
                            self.same(least_price(net, places[start], places[goal]), least_price(part, start, goal))
                    checked += 1
        self.assertGreater(checked, 50)


class SideBookTest(GuideCase):
    """Point 60, the book of one side."""

    def test_books(self):
        book = fill(Net(*LADDER), [(0, 2, 5, 6), (0, 1, 4)])
        self.same(((0, 1), (0, 2), (0, 3), (1, 4), (2, 4), (2, 5), (3, 5), (4, 6), (5, 6), (0, 1, 4), (0, 2, 5),
                   (1, 4, 6), (2, 5, 6), (3, 5, 6), (0, 2, 5, 6)), book.routes)
        self.assertTrue(side_book(book, [0, 2, 5, 6]).net == side(book.net, (0, 2, 5, 6)))
        self.same(((0, 1), (0, 2), (1, 3), (2, 3), (2, 4), (3, 5), (4, 5), (0, 1, 3), (0, 2, 4), (1, 3, 5), (2, 4, 5),
                   (0, 2, 4, 5)), side_book(book, [0, 2, 5, 6]).routes)
        self.same(((0, 1), (0, 2), (1, 3), (2, 3), (3, 4), (0, 1, 3), (1, 3, 4), (2, 3, 4), (0, 1, 3, 4)),
                  side_book(book, (0, 2, 5, 6), left=False).routes)

    def test_books_that_do_not_keep_the_route(self):
        for left in (True, False):
            self.refused(NotKept, {"index": 0}, side_book_with, fill(Net(*LADDER)), [0, 2, 4, 6], left)
            self.refused(NotKept, {"index": 0}, side_book_with, fill(Net(*LADDER), [(0, 2, 5)]), (0, 2, 5, 6), left)
            self.refused(NotThrough, {}, side_book_with, fill(Net(*LADDER)), [0, 2, 4], left)

    def test_against_slow_answers(self):
        for widths, roads, books in small_nets(6001, 20) + [(*LADDER, books_of(*LADDER))]:
            net = Net(widths, roads)
            for route in through_routes(widths, roads)[:4]:
                for routes in books[::5]:
                    book = book_from(net, routes)
                    for left in (True, False):
                        if len(route) > 1 and route not in routes:
                            self.refused(NotKept, {"index": 0}, side_book_with, book, route, left)
                            continue
                        part, places = side_book(book, route, left=left), side_of(widths, route, left)
                        self.same(routes_within(routes, places), list(part.routes))
                        self.same(net_of(widths, roads, places), (part.net.widths, part.net.roads))


class JoinSidesTest(GuideCase):
    """Point 60, both sides together."""

    def test_a_small_net(self):
        net, route = Net(*LADDER), (0, 2, 4, 6)
        book = fill(net, [route, (2, 4)])
        joined = join_sides(net, route, side_book(book, route), side_book(book, route, left=False))
        self.assertTrue(joined == book)
        right = fill(side(net, route, left=False), [(0, 2, 4), (0, 1, 3, 5)])
        joined = join_sides(net, list(route), side_book(book, route), right)
        self.same([(0, 2, 4), (0, 3, 5), (0, 2, 4, 6)], [joined.route(*pair) for pair in ((0, 4), (0, 5), (0, 6))])

    def test_one_row(self):
        net = Net([3], [])
        self.assertTrue(join_sides(net, [1], fill(Net([2], [])), fill(Net([2], []))) == fill(net))
        self.refused(WrongNet, {"index": 0}, join_sides, net, [0], fill(Net([2], [])), fill(Net([3], [])))
        self.refused(WrongNet, {"index": 1}, join_sides, net, [2], fill(Net([3], [])), fill(Net([2], [])))

    def test_books_of_other_nets(self):
        net, route = Net(*LADDER), (0, 2, 4, 6)
        book = fill(net, [route])
        left, right = side_book(book, route), side_book(book, route, left=False)
        stray_left, stray_right = fill(side(net, route), [(0, 1,
                                                           3)]), fill(side(net, route, left=False), [(0, 2, 4, 5)])
        for one, two, index in ((right, left, 0), (book, right, 0), (left, left, 1), (left, book, 1), (book, book, 0),
                                (fill(with_road(left.net, 0, 1, 0)), right, 0), (book, stray_right, 0),
                                (left, fill(without_road(right.net, 0, 2)), 1), (stray_left, book, 1)):
            self.refused(WrongNet, {"index": index}, join_sides, net, route, one, two)
        # What the route itself lacks comes before the nets.
        self.refused(NotThrough, {}, join_sides, net, route[:3], book, book)
        self.refused(BadRoute, {"index": 0, "at": 3}, join_sides, net, [0, 2, 4, 9], book, book)

    def test_books_that_do_not_keep_the_route(self):
        net, route = Net(*LADDER), (0, 2, 4, 6)
        book = fill(net, [route])
        left, right = side_book(book, route), side_book(book, route, left=False)
        stray_left, stray_right = fill(side(net, route), [(0, 1,
                                                           3)]), fill(side(net, route, left=False), [(0, 2, 4, 5)])
        self.refused(NotKept, {"index": 0}, join_sides, net, route, stray_left, right)
        self.refused(NotKept, {"index": 1}, join_sides, net, route, left, stray_right)
        self.refused(NotKept, {"index": 0}, join_sides, net, route, stray_left, stray_right)

    def test_against_slow_answers(self):
        rng = random.Random(60)
        for widths, roads, books in small_nets(6002, 30) + [(*LADDER, books_of(*LADDER))] * 4:
            net, dividers = Net(widths, roads), through_routes(widths, roads)
            if not dividers:
                continue
            route = rng.choice(dividers)
            sides, routes = [], []
            for left in (True, False):
                places = side_of(widths, route, left)
                own = tuple(places.index(place) for place in route)
                part = Net(*net_of(widths, roads, places))
                keeping = [one for one in books_of(part.widths, part.roads) if len(own) == 1 or own in one]
                sides.append(book_from(part, rng.choice(keeping)))
                routes += routes_without(sides[-1], places)
            joined = join_sides(net, route, *sides)
            self.same(leftmost_with(books, routes), joined.routes)
            self.assertTrue([side_book(joined, route), side_book(joined, route, left=False)] == sides)


class OrderTest(GuideCase):
    """Point 61."""

    def test_meets_and_joins(self):
        rng = random.Random(61)
        for widths, roads, books in small_nets(6101, 25) + [(*LADDER, books_of(*LADDER))] * 4:
            net = Net(widths, roads)
            low = rng.randrange(len(widths))
            high = rng.randint(low, len(widths) - 1)
            some = [book_from(net, rng.choice(books)) for _ in range(3)]
            for order in (meet_of, join_of):
                self.assertTrue(band_book(order(some), low, high) == order([band_book(one, low, high) for one in some]))
            dividers = through_routes(widths, roads)
            if dividers:
                route = rng.choice(dividers)
                keeping = [routes for routes in books if len(route) == 1 or route in routes]
                some = [book_from(net, rng.choice(keeping)) for _ in range(3)]
                for order in (meet_of, join_of):
                    for left in (True, False):
                        self.assertTrue(side_book(order(some), route, left=left) ==
                                        order([side_book(one, route, left=left) for one in some]))


class NamesTest(GuideCase):
    """What stands behind a star is passed by name only."""

    def test_left_is_passed_by_name(self):
        book = fill(Net(*DIAMOND))
        for call, value in ((side_places, book.net), (side, book.net), (side_book, book)):
            with self.assertRaises(TypeError):
                call(value, [0, 1, 3], False)


if __name__ == "__main__":
    unittest.main()
