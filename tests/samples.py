"""What the tests share: nets, slow reference answers taken straight from the document, and one base class.

The reference answers know a net only by its widths and its roads, so that they rest on nothing that is tested.
"""

import random
import unittest

from meetonce.books import Book
from meetonce.errors import GuideError
from meetonce.nets import Net

# Two cheapest routes from 0 to 3.
DIAMOND = ((1, 2, 1), ((0, 1, 5), (0, 2, 5), (1, 3, 4), (2, 3, 4)))
# Three cheapest routes from 0 to 6 and more between them, so that not every cheap next place is admissible.
LADDER = ((1, 3, 2, 1), ((0, 1, 1), (0, 2, 1), (0, 3, 1), (1, 4, 1), (2, 4, 1), (2, 5, 1), (3, 5, 1),
                         (4, 6, 1), (5, 6, 1)))


def rows_of(widths):
    """The row of each place."""
    return [row for row, width in enumerate(widths) for _ in range(width)]


def routes_of(widths, roads):
    """All routes, by their start and goal."""
    found = {}
    longest = [(place,) for place in range(sum(widths))]
    while longest:
        for route in longest:
            found.setdefault((route[0], route[-1]), []).append(route)
        longest = [route + (end,) for route in longest for start, end, _ in roads if start == route[-1]]
    return found


def price_in(roads, route):
    """The price of a route."""
    prices = {(start, end): price for start, end, price in roads}
    return sum(prices[step] for step in zip(route, route[1:]))


def cheapest_of(widths, roads):
    """All cheapest routes, by their start and goal, each list from left to right."""
    found = {}
    for ends, routes in routes_of(widths, roads).items():
        least = min(price_in(roads, route) for route in routes)
        found[ends] = sorted(route for route in routes if price_in(roads, route) == least)
    return found


def parts_of(route):
    """All parts of a route."""
    return [route[low:high] for low in range(len(route)) for high in range(low + 1, len(route) + 1)]


def pairs_of(widths, roads):
    """The pairs in filling order."""
    rows = rows_of(widths)
    pairs = [ends for ends in routes_of(widths, roads) if ends[0] != ends[1]]
    return sorted(pairs, key=lambda ends: (rows[ends[1]] - rows[ends[0]], ends))


def conflict_of(first, second):
    """What `conflict` returns, by the words of points 17 and 18."""
    shared = sorted(set(first) & set(second))
    splits = []
    for split in shared[:-1]:
        if first[first.index(split) + 1] != second[second.index(split) + 1]:
            splits.append((split, shared[shared.index(split) + 1]))
    return splits[0] if splits else None


def admissible_of(cheapest, kept, start, goal):
    """The admissible places of a pair, by the words of point 24; `kept` has all shorter routes."""
    places = []
    for place in sorted({route[1] for route in cheapest[(start, goal)]}):
        candidate = (start,) + kept[(place, goal)]
        without_last = candidate[:-1]
        if kept[(without_last[0], without_last[-1])] == without_last:
            places.append(place)
    return places


def random_routes_of_a_book(rng, widths, roads):
    """The routes of some book, by their start and goal, those of one place included."""
    cheapest = cheapest_of(widths, roads)
    kept = {(place, place): (place,) for place in range(sum(widths))}
    for start, goal in pairs_of(widths, roads):
        place = rng.choice(admissible_of(cheapest, kept, start, goal))
        kept[(start, goal)] = (start,) + kept[(place, goal)]
    return kept


def books_of(widths, roads, most=150):
    """The routes of all books, by the first words of point 23, or None if there are more than `most` books.

    Each book is the tuple of its routes in filling order.
    """
    cheapest = cheapest_of(widths, roads)
    found = [{}]
    for ends in pairs_of(widths, roads):
        found = [{**kept, ends: route} for kept in found for route in cheapest[ends]
                 if all(kept[(part[0], part[-1])] == part for part in parts_of(route) if 1 < len(part) < len(route))]
        if len(found) > most:
            return None
    return [tuple(kept.values()) for kept in found]


def small_nets(seed, count, least=6, most=150, **limits):
    """Nets with `least` to `most` books: a list of `(widths, roads, books)`, the books as in `books_of`."""
    rng = random.Random(seed)
    found = []
    while len(found) < count:
        widths, roads = random_net(rng, **{"most_rows": 6, **limits})
        books = books_of(widths, roads, most)
        if books is not None and len(books) >= least:
            found.append((widths, roads, books))
    return found


def book_from(net, routes):
    """The book that keeps just these routes."""
    return Book(net, table_from(net.size, {(route[0], route[-1]): route for route in routes}))


def all_books(widths, roads):
    """All books of a net with few books."""
    net = Net(widths, roads)
    return [book_from(net, routes) for routes in books_of(widths, roads)]


def left_of(first, second):
    """True if the first tuple of routes is nowhere right of the second one, by the words of points 19 and 31."""
    return all(place <= other for route, another in zip(first, second) for place, other in zip(route, another))


def keeps(routes, wish):
    """True if one of the routes is the wish, or the wish is one place."""
    return len(wish) == 1 or tuple(wish) in routes


def some_parts(rng, routes, most=4):
    """Up to `most` parts of the routes, some of them lists, some of one place; those of one book fit together."""
    if not routes:
        return []
    parts = [rng.choice(parts_of(rng.choice(routes))) for _ in range(rng.randint(0, most))]
    return [rng.choice([list, tuple])(part) for part in parts]


def table_from(size, kept, at=1):
    """The table of the second places (or of those with another index) of the routes that are kept."""
    table = [[None] * size for _ in range(size)]
    for (start, goal), route in kept.items():
        if start != goal:
            table[start][goal] = route[at]
    return table


def cross(first, second):
    """True if two roads cross; only roads that start in one row are asked."""
    return (first[0] - second[0]) * (first[1] - second[1]) < 0


def random_net(rng, most_rows=5, most_places=4, prices=(0, 1)):
    """Widths and roads of a net, the roads in no order; few different prices make many ties."""
    widths = [rng.randint(1, most_places) for _ in range(rng.randint(1, most_rows))]
    rows = rows_of(widths)
    size = len(rows)
    steps = [(start, end) for start in range(size) for end in range(size) if rows[end] == rows[start] + 1]
    rng.shuffle(steps)
    roads = []
    for start, end in steps:
        in_row = [road for road in roads if rows[road[0]] == rows[start]]
        if rng.random() < 0.8 and not any(cross(road, (start, end)) for road in in_row):
            roads.append((start, end, rng.choice(prices)))
    return widths, roads


def random_nets(seed, count, **limits):
    """A list of such nets, the same ones every time."""
    rng = random.Random(seed)
    return [random_net(rng, **limits) for _ in range(count)]


def deep_list(value):
    """The value with lists in the place of tuples, at every depth."""
    return [deep_list(each) for each in value] if isinstance(value, (list, tuple)) else value


def deep_tuple(value):
    """The value with tuples in the place of lists, at every depth."""
    return tuple(deep_tuple(each) for each in value) if isinstance(value, (list, tuple)) else value


def spoil(value):
    """Change every list within the value."""
    if isinstance(value, (list, tuple)):
        for each in value:
            spoil(each)
    if isinstance(value, list):
        value.reverse()
        value.append(0)
        del value[:1]


class GuideCase(unittest.TestCase):
    """A test case that looks closely at errors, at kinds of values and at arguments."""

    def refused(self, error_class, fields, call, *args):
        """The call must raise an error of just this class, with these fields."""
        with self.assertRaises(GuideError) as caught:
            call(*args)
        error = caught.exception
        self.assertEqual((type(error).__name__, fields),
                         (error_class.__name__, {name: getattr(error, name) for name in fields}))
        self.assertIs(type(error), error_class)

    def same(self, expected, answer):
        """Equal, and lists, tuples and truth values at every depth of the same kind."""
        self.assertEqual(expected, answer)
        self.assertEqual(repr(expected), repr(answer))
