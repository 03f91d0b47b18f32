"""Points 62 and 63: papers that show facts about a net."""

import copy
import random
import unittest

from meetonce.changes import losses
from meetonce.errors import BadRoute, Conflict, NoRoute, NotCheapest, WrongNet
from meetonce.filling import fill
from meetonce.lots import best_lot
from meetonce.nets import Net, with_road, without_road
from meetonce.order import leftmost, rightmost
from meetonce.papers import book_paper, holds, loss_papers, lot_paper, price_paper, sure_paper, wish_paper
from meetonce.prices import price_table
from meetonce.tables import judge, tables_of
from tests.samples import (DIAMOND, LADDER, GuideCase, book_from, books_of, cheapest_of, conflict_of, deep_list,
                           deep_tuple, keeps, left_of, price_in, routes_of, rows_of, small_nets, some_parts, table_from)
from tests.test_lots import holds_by_words

FAR = 10 ** 59


class Judge:
    """`holds` for one net, from the words of point 62 and slow answers."""

    def __init__(self, widths, roads):
        self.net = Net(widths, roads)
        self.widths, self.roads = tuple(widths), list(roads)
        self.routes = routes_of(widths, roads)
        self.cheapest_by_ends = cheapest_of(widths, roads)
        self.books = books_of(widths, roads)

    def holds(self, paper):
        """True if the paper shows its fact."""
        return getattr(self, paper[0])(*deep_tuple(paper[1:]))

    def is_route(self, route):
        """True if the list is a route of the net."""
        return bool(route) and route in self.routes.get((route[0], route[-1]), [])

    def cheapest_routes(self, route):
        """All cheapest routes with the ends of the route."""
        return self.cheapest_by_ends.get((route[0], route[-1]), [])

    def cheapest(self, route, table):
        """A paper `("cheapest", ..)`: point 14."""
        prices = {(start, end): price for start, end, price in self.roads}
        if not self.is_route(route) or len(table) != sum(self.widths) or table[route[-1]] != 0:
            return False
        for (start, end), price in prices.items():
            if table[end] is not None and (table[start] is None or table[start] > price + table[end]):
                return False
        return all(table[start] is not None and table[end] is not None and
                   table[start] == prices[(start, end)] + table[end] for start, end in zip(route, route[1:]))

    def cheaper(self, route, other):
        """A paper `("cheaper", ..)`."""
        return (self.is_route(route) and self.is_route(other) and route[0] == other[0] and route[-1] == other[-1]
                and price_in(self.roads, other) < price_in(self.roads, route))

    def conflict(self, first, second, split, meeting):
        """A paper `("conflict", ..)`."""
        if not self.is_route(first) or not self.is_route(second) or split >= meeting:
            return False
        if not {split, meeting} <= set(first) & set(second):
            return False
        return first[first.index(split) + 1] != second[second.index(split) + 1]

    def possible(self, wishes, route, table):
        """A paper `("possible", ..)`."""
        return (all(self.is_route(wish) for wish in wishes) and self.cheapest(route, table)
                and not any(conflict_of(wish, route) for wish in wishes))

    def sure(self, wishes, lower, upper, route):
        """A paper `("sure", ..)`."""
        if any(not wish or wish not in self.cheapest_routes(wish) for wish in wishes):
            return False
        if any(conflict_of(one, two) for one in wishes for two in wishes):
            return False
        keeping = [routes for routes in self.books if all(keeps(routes, wish) for wish in wishes)]
        ends = [[one for one in keeping if all(left_of(one, other) for other in keeping)][0],
                [one for one in keeping if all(left_of(other, one) for other in keeping)][0]]
        tables = [deep_tuple(table_from(sum(self.widths), {(route[0], route[-1]): route for route in routes}))
                  for routes in ends]
        kept = [route in routes or len(route) == 1 and self.is_route(route) for routes in ends]
        return tables == [lower, upper] and all(kept)

    def unsure(self, wishes, first, second, table):
        """A paper `("unsure", ..)`."""
        return (self.possible(wishes, first, table) and self.possible(wishes, second, table) and first != second
                and first[0] == second[0] and first[-1] == second[-1])

    def book(self, *tables):
        """A paper `("book", ..)`."""
        size = sum(self.widths)
        if any(len(table) != size or any(len(row) != size for row in table) for table in tables):
            return False
        return judge(self.net, *tables) is None

    def lot(self, routes, worths, lot, marks):
        """A paper `("lot", ..)`."""
        if not all(self.is_route(route) for route in routes) or len(worths) != len(routes):
            return False
        rows = rows_of(self.widths)
        if len({(rows[route[0]], len(route)) for route in routes}) > 1 or any(worth < 0 for worth in worths):
            return False
        return holds_by_words(routes, worths, lot, marks)

    def lost(self, wishes, route, reason):
        """A paper `("lost", ..)`."""
        if reason[0] == "road":
            return reason[1:] in list(zip(route, route[1:])) and reason[1:] not in [road[:2] for road in self.roads]
        if reason[0] == "price":
            return self.cheaper(route, reason[1])
        if not 0 <= reason[1] < len(wishes):
            return False
        wish = wishes[reason[1]]
        return self.is_route(route) and self.is_route(wish) and conflict_of(wish, route) is not None


def are(value, *kinds):
    """True if the value is a list of what is of one of these kinds."""
    return isinstance(value, list) and all(isinstance(each, kinds) for each in value)


def is_reason(value):
    """True if the value has one of the forms of point 22."""
    forms = {"road": [int, int], "price": [list], "wish": [int]}
    return isinstance(value, list) and value and value[0] in list(forms) and \
        [type(each) for each in value[1:]] == forms[value[0]] and (value[0] != "price" or are(value[1], int))


FORM_TESTS = {
    "integer": lambda value: isinstance(value, int),
    "integers": lambda value: are(value, int),
    "lists": lambda value: are(value, list) and all(are(each, int) for each in value),
    "table": lambda value: are(value, int, type(None)),
    "tables": lambda value: are(value, list) and all(are(each, int, type(None)) for each in value),
    "reason": is_reason,
}
FORMS = {
    "cheapest": "integers table", "cheaper": "integers integers", "conflict": "integers integers integer integer",
    "possible": "lists integers table", "sure": "lists tables tables integers",
    "unsure": "lists integers integers table", "book": "tables tables tables",
    "lot": "lists integers integers integers", "lost": "lists integers reason"}


def has_form(word, entries):
    """True if the entries have the form that point 62 tells for a paper with this word."""
    kinds = FORMS[word].split()
    return len(kinds) == len(entries) and all(FORM_TESTS[kind](entry) for kind, entry in zip(kinds, entries))


def change_somewhere(rng, value, numbers):
    """The value with one entry of a list or one number changed somewhere."""
    if isinstance(value, list) and value and rng.random() < 0.85:
        at = rng.randrange(len(value))
        return value[:at] + [change_somewhere(rng, value[at], numbers)] + value[at + 1:]
    if isinstance(value, list):
        kind = rng.random()
        if kind < 0.4 and value:
            at = rng.randrange(len(value))
            return value[:at] + value[at + rng.randint(1, 2):]
        if kind < 0.6:
            return value + value[-1:]
        return value[::-1] if kind < 0.8 else []
    return rng.choice(numbers)


class HoldsTest(GuideCase):
    """Point 62, one condition after the other."""

    def check(self, net, good, bad):
        """The good papers hold and the bad ones do not, with lists and with tuples."""
        for papers, expected in ((good, True), (bad, False)):
            for paper in papers:
                with self.subTest(paper=paper):
                    for same in (paper, deep_tuple(paper), (paper[0], *[self.listed(entry) for entry in paper[1:]])):
                        before = copy.deepcopy(same)
                        self.same(expected, holds(net, same))
                        self.same(before, same)

    def listed(self, entry):
        """The entry with lists, where it is no reason."""
        if isinstance(entry, (list, tuple)) and entry and isinstance(entry[0], str):
            return entry
        return deep_list(entry)

    def test_cheapest(self):
        net = Net(*DIAMOND)
        self.check(net, [("cheapest", [0, 1, 3], [9, 4, 4, 0]), ("cheapest", [0], [0, None, None, None]),
                         ("cheapest", (3,), [-100, -10, -10, 0]), ("cheapest", [3], (9, 4, 4, 0))],
                   [("cheapest", [], [9, 4, 4, 0]), ("cheapest", [0, 3], [9, 4, 4, 0]), ("cheapest", [0, 1, 3], []),
                    ("cheapest", [0, 1, 3], [9, 4, 4]), ("cheapest", [0, 1, 3], [9, 4, 4, 0, 0]),
                    ("cheapest", [0, 1, 3], [9, 4, 4, 1]), ("cheapest", [0, 1, 3], [9, 4, 4, None]),
                    ("cheapest", [0, 1, 3], [None, 4, 4, 0]), ("cheapest", [0, 1, 3], [8, 4, 4, 0]),
                    ("cheapest", [0, 1, 3], [9, None, 4, 0]), ("cheapest", [FAR], [FAR] * 4),
                    ("cheapest", [-1], [0, 0, 0, 0])])

    def test_cheaper(self):
        net = Net([1, 2, 2], [(0, 1, 5), (0, 2, 4), (1, 3, 4), (2, 3, 4), (2, 4, 9)])
        self.check(net, [("cheaper", [0, 1, 3], [0, 2, 3])],
                   [("cheaper", [0, 2, 3], [0, 1, 3]), ("cheaper", [0, 1, 3], [0, 1, 3]), ("cheaper", [], [0, 2, 3]),
                    ("cheaper", [0, 1, 3], []), ("cheaper", [0, 1, 3], [0, 3]), ("cheaper", [0, 3], [0, 2, 3]),
                    ("cheaper", [0, 1], [0, 2]), ("cheaper", [1, 3], [2, 3]), ("cheaper", [0, 2, 4], [0, 2, 3]),
                    ("cheaper", [2, 4], [2, 3]), ("cheaper", [0, 1, 3], [2, 3]), ("cheaper", [1, 3], [0, 2, 3]),
                    ("cheaper", [FAR, 1], [-1])])

    def test_conflict(self):
        net = Net(*LADDER)
        self.check(net, [("conflict", [0, 1, 4], [0, 2, 4], 0, 4), ("conflict", (0, 1, 4, 6), (0, 3, 5, 6), 0, 6),
                         ("conflict", [0, 1, 4, 6], [0, 2, 4, 6], 0, 6), ("conflict", [2, 4, 6], [0, 2, 5, 6], 2, 6),
                         ("conflict", [0, 2, 4, 6], [2, 5, 6], 2, 6)],
                   [("conflict", [0, 1, 4], [0, 2, 4], 4, 0), ("conflict", [0, 1, 4], [0, 2, 4], 0, 0),
                    ("conflict", [0, 1, 4], [0, 1, 4], 0, 4), ("conflict", [0, 1, 4], [0, 2, 4], 0, 2),
                    ("conflict", [0, 1, 4], [0, 2, 4], 0, 1), ("conflict", [0, 1, 4], [0, 2, 4], 1, 4),
                    ("conflict", [0, 1, 4], [0, 2, 4], 2, 4), ("conflict", [0, 4], [0, 2, 4], 0, 4),
                    ("conflict", [0, 1, 4], [0, 4], 0, 4), ("conflict", [], [0, 2, 4], 0, 4),
                    ("conflict", [0, 1, 4], [0, 2, 4], 0, 6), ("conflict", [0, 1, 4], [0, 2, 4], -FAR, FAR),
                    ("conflict", [0, 1, 4, 6], [0, 2, 4, 6], 4, 6), ("conflict", [0, 1, 4], [0, 2, 5], 0, 4),
                    ("conflict", [0, 2, 4, 6], [2, 5, 6], 0, 6)])

    def test_possible(self):
        net = with_road(Net(*LADDER), 3, 5, 2)
        table = price_table(net, 6)
        self.check(net, [("possible", [], [0, 2, 4, 6], table), ("possible", [[0, 2, 4], [2], [0, 2]], [0, 2, 4, 6],
                                                                 table),
                         # Wishes need not be cheapest, and they need not fit together.
                         ("possible", [[0, 3, 5], [0, 3]], [1, 4, 6], table),
                         ("possible", [[0, 1, 4], [0, 2, 4]], [2, 5, 6], table)],
                   [("possible", [[0, 1, 4]], [0, 2, 4, 6], table), ("possible", [[2], [0, 1, 4]], [0, 2, 4, 6], table),
                    ("possible", [[]], [2, 4, 6], table), ("possible", [[0, 2], [0, 4]], [2, 4, 6], table),
                    ("possible", [[9]], [2, 4, 6], table), ("possible", [], [2, 4, 6], table[:-1]),
                    ("possible", [], [2, 6], table), ("possible", [], [], table), ("possible", [], [0, 3, 5, 6], table),
                    ("possible", [], [2, 4, 6], []), ("possible", [], [2, 4, 6], [None] * 7)])

    def test_sure(self):
        net = Net(*LADDER)
        wishes = [(0, 1, 4, 6)]
        low, high = leftmost(net, wishes).next_table(), rightmost(net, wishes).next_table()
        shorter = [row[:-1] for row in low]
        self.check(net, [("sure", wishes, low, high, [0, 1, 4]), ("sure", wishes, low, high, [0, 1, 4, 6]),
                         ("sure", wishes, low, high, [3]), ("sure", wishes * 2, low, high, [0, 3])],
                   [("sure", wishes, low, high, [0, 2, 5]), ("sure", wishes, low, high, [0, 3, 5]),
                    ("sure", wishes, high, low, [0, 1, 4]), ("sure", wishes, low, low, [0, 1, 4]),
                    ("sure", wishes, high, high, [0, 1, 4]), ("sure", [], low, high, [0, 1, 4]),
                    ("sure", wishes, low, high, []), ("sure", wishes, low, high, [0, 4]),
                    ("sure", wishes, low, high, [9]), ("sure", wishes, [], high, [0, 1]),
                    ("sure", wishes, low, [], [0, 1]), ("sure", wishes, low, high[:-1], [0, 1]),
                    ("sure", wishes, shorter, high, [0, 1]), ("sure", wishes, low + [[]], high, [0, 1]),
                    ("sure", wishes, [[]] * 7, high, [0, 1]), ("sure", [[]], low, high, [0, 1]),
                    ("sure", wishes + [(0, 2, 4)], low, high, [0, 1]), ("sure", wishes + [(0, 4)], low, high, [0, 1]),
                    ("sure", wishes, [[FAR] * 7] * 7, high, [0, 1])])
        dear = with_road(net, 0, 1, 2)
        low, high = leftmost(dear).next_table(), rightmost(dear).next_table()
        self.check(dear, [("sure", [], low, high, [0, 2, 4])], [("sure", [(0, 1, 4)], low, high, [0, 2, 4])])

    def test_sure_at_a_book_alone(self):
        # A route that only one of the two books keeps is not sure.
        net = Net(*DIAMOND)
        low, high = leftmost(net).next_table(), rightmost(net).next_table()
        self.check(net, [("sure", [], low, high, [0, 1])],
                   [("sure", [], low, high, [0, 1, 3]), ("sure", [], low, high, [0, 2, 3])])

    def test_unsure(self):
        net = Net(*LADDER)
        table = price_table(net, 6)
        self.check(net, [("unsure", [], [0, 1, 4, 6], [0, 3, 5, 6], table),
                         ("unsure", [(2, 5)], [2, 4, 6], [2, 5, 6], table),
                         ("unsure", [], [0, 3, 5, 6], [0, 1, 4, 6], table)],
                   [("unsure", [], [0, 1, 4, 6], [0, 1, 4, 6], table), ("unsure", [], [0, 1, 4, 6], [1, 4, 6], table),
                    ("unsure", [], [1, 4, 6], [0, 1, 4, 6], table), ("unsure", [], [], [0, 1, 4, 6], table),
                    ("unsure", [], [0, 1, 4, 6], [], table), ("unsure", [(0, 1, 4)], [0, 1, 4, 6], [0, 2, 4, 6], table),
                    ("unsure", [(0, 1, 4)], [0, 2, 4, 6], [0, 1, 4, 6], table),
                    ("unsure", [()], [0, 1, 4, 6], [0, 2, 4, 6], table),
                    ("unsure", [], [0, 1, 4, 6], [0, 2, 4, 6], table[1:]),
                    ("unsure", [], [0, 1, 4], [0, 2, 4], table)])
        # One table can show this for two goals, but an unsure pair has one.
        split = Net([1, 2], [(0, 1, 5), (0, 2, 5)])
        self.check(split, [("cheapest", [0, 1], [5, 0, 0]), ("cheapest", [0, 2], [5, 0, 0])],
                   [("unsure", [], [0, 1], [0, 2], [5, 0, 0])])
        # And likewise for two starts.
        joined = Net([2, 1], [(0, 2, 5), (1, 2, 5)])
        self.check(joined, [("possible", [], [0, 2], [5, 5, 0]), ("possible", [], [1, 2], [5, 5, 0])],
                   [("unsure", [], [0, 2], [1, 2], [5, 5, 0])])

    def test_book(self):
        for routes in books_of(*LADDER):
            tables = tables_of(book_from(Net(*LADDER), routes))
            after, before, least = tables
            self.check(Net(*LADDER), [("book", *tables)],
                       [("book", before, after, least), ("book", after[:-1], before, least),
                        ("book", after, before + [[None] * 7], least), ("book", after, before, []),
                        ("book", [row[:-1] for row in after], before, least),
                        ("book", after, [row + [None] for row in before], least),
                        ("book", after, before, least[:-1] + [[]]), ("book", after, before, [[None] * 7] * 7),
                        ("book", [[FAR] * 7] * 7, before, least), ("book", after, before, [[0] * 7] * 7)])
        self.check(Net([1], []), [("book", [[None]], [[None]], [[0]])],
                   [("book", [[]], [[]], [[]]), ("book", [], [], [])])

    def test_book_with_entries_that_are_no_places(self):
        tables = deep_list(tables_of(fill(Net(*DIAMOND))))
        for at in range(3):
            for start in range(4):
                for goal in range(4):
                    for value in (-1, 4, FAR, -FAR, None, 0, 3):
                        changed = copy.deepcopy(tables)
                        changed[at][start][goal] = value
                        self.same(changed == tables, holds(Net(*DIAMOND), ("book", *changed)))

    def test_lot(self):
        net = Net(*LADDER)
        routes, worths = [(0, 1, 4), (0, 2, 5), (0, 2, 4), (0, 1, 4)], [3, 1, 4, 2]
        lot, marks = best_lot(routes, worths)
        self.check(net, [("lot", routes, worths, lot, marks), ("lot", [], [], [], []), ("lot", [[6]], [0], [], [0]),
                         ("lot", [[1, 4], [2, 5], [2, 4]], [1, 1, 1], [0, 1, 2], [1, 3, 2])],
                   [("lot", routes, worths, lot[:-1], marks), ("lot", routes, worths, lot, marks[:-1]),
                    ("lot", routes, worths[:-1], lot, marks), ("lot", routes, worths + [0], lot, marks),
                    ("lot", [], [1], [], []), ("lot", [], [], [0], []), ("lot", [[]], [1], [0], [1]),
                    ("lot", [[0, 4]], [1], [0], [1]), ("lot", [[7]], [1], [0], [1]), ("lot", [[0, 1]], [-1], [], [0]),
                    ("lot", [[0, 1], [0, 2]], [1, -1], [0], [1, 1]), ("lot", [[0, 1], [1, 4]], [1, 1], [0, 1], [1, 2]),
                    ("lot", [[0, 1], [0, 2, 4]], [1, 1], [0, 1], [1, 2]),
                    ("lot", [[1, 4], [0, 3, 5]], [1, 1], [0], [1, 1]),
                    ("lot", [[0, 1], []], [1, 1], [0], [1, 1])])

    def test_lost(self):
        net = with_road(without_road(Net(*LADDER), 2, 5), 3, 5, 2)
        self.check(net, [("lost", [], [0, 2, 5], ("road", 2, 5)), ("lost", [], [0, 1, 5, 6], ("road", 1, 5)),
                         ("lost", [], [0, 3, 5, 6], ("price", (0, 1, 4, 6))),
                         ("lost", [(2,), (0, 2, 4)], [0, 1, 4], ("wish", 1)),
                         # The reason is right by itself, though the route is dear or another wish comes earlier.
                         ("lost", [(0, 2, 4, 6)], [0, 3, 5, 6], ("wish", 0)),
                         ("lost", [(0, 1, 4), (0, 1, 4, 6)], [0, 2, 4, 6], ("wish", 1)),
                         ("lost", [[]], [0, 9, 2, 5, FAR], ("road", 5, FAR)),
                         ("lost", [[0, 4], (0, 1, 4)], [0, 2, 4], ("wish", 1)),
                         ("lost", [[3, 3]], [3, 3], ("road", 3, 3))],
                   [("lost", [], [0, 2, 5], ("road", 0, 2)), ("lost", [], [0, 2, 5], ("road", 0, 5)),
                    ("lost", [], [0, 2, 4], ("road", 2, 5)), ("lost", [], [], ("road", 2, 5)),
                    ("lost", [], [2, 5], ("road", 5, 2)), ("lost", [], [0, 1, 4, 6], ("price", (0, 3, 5, 6))),
                    ("lost", [], [0, 1, 4, 6], ("price", (0, 2, 4, 6))), ("lost", [], [0, 3, 5, 6], ("price", ())),
                    ("lost", [], [], ("price", (0, 1, 4))), ("lost", [], [3, 5], ("price", (3, 5))),
                    ("lost", [(0, 2, 4)], [0, 1, 4], ("wish", 1)), ("lost", [(0, 2, 4)], [0, 1, 4], ("wish", -1)),
                    ("lost", [(0, 2, 4)], [0, 1, 4], ("wish", FAR)), ("lost", [], [0, 1, 4], ("wish", 0)),
                    ("lost", [(0, 2, 4)], [0, 2, 4], ("wish", 0)), ("lost", [(0, 2, 5)], [0, 3, 5], ("wish", 0)),
                    ("lost", [(0, 3, 5)], [0, 2, 5], ("wish", 0)), ("lost", [()], [0, 2, 4], ("wish", 0)),
                    ("lost", [(0, 2, 4)], [], ("wish", 0))])

    def test_reasons_of_no_such_form(self):
        net = Net(*DIAMOND)
        for reason in ((), ("road",), ("road", 0), ("road", 0, 3, 3), ("price",), ("price", 5), ("price", (0, 2, 3), 1),
                       ("wish",), ("wish", 0, 0), ("wish", (0, 1, 3)), ("toll", 0), ("toll", 0, 3), (0, 3), (0, 3, 3),
                       None,
                       ("road", None, None), ("wish", None), ("price", None)):
            self.same(False, holds(net, ("lost", [(0, 1, 3)], (0, 2, 3), reason)))
            self.same(False, holds(net, ("lost", [(0, 1, 3)], (0, 3), reason)))
        dear = with_road(net, 0, 2, 9)
        self.same([True, False], [holds(dear, ("lost", [], (0, 2, 3), reason))
                                  for reason in (("price", (0, 1, 3)), ("price", (0, 1, 3), 1))])
        self.same([True, False], [holds(net, ("lost", [(0, 1, 3)], (0, 2, 3), reason))
                                  for reason in (("wish", 0), ("wish", 0, 0))])
        self.same([True, False], [holds(net, ("lost", [], (0, 3), reason))
                                  for reason in (("road", 0, 3), ("road", 0, 3, 3))])

    def test_any_papers_of_the_right_form(self):
        rng = random.Random(62)
        held = {}
        for widths, roads, books in small_nets(6201, 14, most=50) + [(*DIAMOND, None), (*LADDER, None)]:
            by_words = Judge(widths, roads)
            numbers = [-FAR, -1, FAR, sum(widths), None] + list(range(sum(widths))) * 2
            for paper in self.papers(rng, by_words):
                for changes in (0, 1, 1, 1, 1, 2, 3):
                    self.compare(rng, by_words, paper, changes, numbers, held)
        for word, (good, bad) in held.items():
            self.assertTrue(good > 10 and bad > 10, (word, good, bad))

    def compare(self, rng, by_words, paper, changes, numbers, held):
        """The paper, with some entries changed, holds exactly if it does by the words of the document."""
        entries = deep_list(paper[1:])
        for _ in range(changes):
            entries = change_somewhere(rng, entries, numbers)
        if not has_form(paper[0], entries):
            return
        changed = (paper[0], *entries)
        expected = by_words.holds(changed)
        self.same(expected, holds(by_words.net, changed))
        counts = held.setdefault(paper[0], [0, 0])
        counts[0 if expected else 1] += 1

    def papers(self, rng, by_words):
        """Some papers of each word."""
        net, every = by_words.net, [route for routes in by_words.routes.values() for route in routes]
        found = []
        for _ in range(14):
            book = book_from(net, rng.choice(by_words.books))
            wishes = [tuple(part) for part in some_parts(rng, book.routes)]
            route = rng.choice(every)
            found += [price_paper(net, route), wish_paper(net, wishes, route),
                      sure_paper(net, wishes, *rng.choice(net.pairs)),
                      ("cheaper", route, rng.choice(by_words.routes[(route[0], route[-1])])),
                      ("conflict", route, rng.choice(every), rng.choice(route), rng.choice(route)),
                      ("lost", [rng.choice(every)], route, ("wish", 0)),
                      ("lost", wishes, route, ("road", *rng.choice(list(zip(route, route[1:])) or [(0, 1)]))),
                      ("lost", wishes, route, ("price", rng.choice(by_words.routes[(route[0], route[-1])])))]
            clashing = [other for other in every if conflict_of(route, other)]
            if clashing:
                other = rng.choice(clashing)
                found.append(("conflict", route, other, *conflict_of(route, other)))
            like = [other for other in every if len(other) == len(route)
                    and net.row_of(other[0]) == net.row_of(route[0])]
            some = [rng.choice(like) for _ in range(rng.randint(0, 4))]
            found += [book_paper(book), lot_paper(some, [rng.randint(0, 2) for _ in some])]
        return found


class PapersTest(GuideCase):
    """Point 63."""

    def test_price_paper(self):
        net = Net([1, 2, 2], [(0, 1, 5), (0, 2, 4), (1, 3, 4), (2, 3, 4), (2, 4, 9)])
        self.same(("cheaper", (0, 1, 3), (0, 2, 3)), price_paper(net, [0, 1, 3]))
        self.same(("cheapest", (0, 2, 3), [8, 4, 4, 0, None]), price_paper(net, [0, 2, 3]))
        self.same(("cheapest", (1,), [5, 0, None, None, None]), price_paper(net, (1,)))
        for route, at in (([], 0), ([5], 0), ([0, 3], 1), ((0, 1, 4), 2)):
            self.refused(BadRoute, {"index": 0, "at": at}, price_paper, net, route)

    def test_wish_paper(self):
        net = with_road(Net(*LADDER), 3, 5, 2)
        table = price_table(net, 6)
        self.same(("possible", (), (2, 5, 6), table), wish_paper(net, [], [2, 5, 6]))
        self.same(("possible", ((0, 1, 4), (0, 1, 4)), (2, 5, 6), table),
                  wish_paper(net, [[0, 1, 4], (0, 1, 4)], [2, 5, 6]))
        self.same(("conflict", (0, 1, 4), (0, 2, 4, 6), 0, 4),
                  wish_paper(net, [[2, 4], (0, 1, 4), (0, 1, 4, 6)], [0, 2, 4, 6]))
        self.same(("conflict", (0, 1, 4, 6), (0, 2, 5, 6), 0, 6),
                  wish_paper(net, [[2, 4], (0, 1, 4), (0, 1, 4, 6)], (0, 2, 5, 6)))
        # A route that is dear and conflicts with a wish as well.
        self.same(("cheaper", (0, 3, 5, 6), (0, 1, 4, 6)), wish_paper(net, [(0, 2, 4, 6)], [0, 3, 5, 6]))

    def test_the_errors_of_wish_paper(self):
        net = with_road(Net(*LADDER), 3, 5, 2)
        self.refused(BadRoute, {"index": 1, "at": 1}, wish_paper, net, [[2], [0, 4]], [])
        self.refused(NotCheapest, {"index": 0, "cheaper": (0, 2, 5)}, wish_paper, net, [(0, 3, 5)], [9])
        self.refused(Conflict, {"first": 0, "second": 1, "split": 0, "meeting": 4}, wish_paper, net,
                     [(0, 1, 4), (0, 2, 4)], [])
        for route, at in (([], 0), ([7], 0), ([0, 4], 1), ((-1,), 0)):
            self.refused(BadRoute, {"index": 0, "at": at}, wish_paper, net, [(0, 1, 4)], route)

    def test_sure_paper(self):
        net = Net(*LADDER)
        table = price_table(net, 6)
        self.same(("unsure", (), (0, 1, 4, 6), (0, 3, 5, 6), table), sure_paper(net, [], 0, 6))
        self.same(("unsure", ((2,), (0, 2, 4)), (0, 2, 4, 6), (0, 3, 5, 6), table),
                  sure_paper(net, ([2], [0, 2, 4]), 0, 6))
        wishes = [[2, 5, 6], [0, 2, 5]]
        paper = sure_paper(net, wishes, 0, 6)
        self.same(("unsure", ((2, 5, 6), (0, 2, 5)), (0, 1, 4, 6), (0, 2, 5, 6), table), paper)
        wishes = [[0, 1, 4, 6]]
        self.same(("sure", ((0, 1, 4, 6),), leftmost(net, wishes).next_table(), rightmost(net, wishes).next_table(),
                   (1, 4, 6)), sure_paper(net, wishes, 1, 6))
        self.same((0, 3), sure_paper(net, [], 0, 3)[4])

    def test_the_errors_of_sure_paper(self):
        net = Net(*LADDER)
        for start, goal in ((0, 0), (6, 0), (1, 5), (7, 7), (-1, -1), (0, FAR), (-FAR, 6)):
            self.refused(NoRoute, {"start": start, "goal": goal}, sure_paper, net, [[0, 1, 4]], start, goal)
        self.refused(BadRoute, {"index": 1, "at": 1}, sure_paper, net, [[2], [0, 4]], 0, 0)
        self.refused(Conflict, {"first": 0, "second": 1, "split": 0, "meeting": 4}, sure_paper, net,
                     [(0, 1, 4), (0, 2, 4)], 6, 0)
        self.refused(NotCheapest, {"index": 0, "cheaper": (0, 2, 5)}, sure_paper, with_road(net, 3, 5, 2),
                     [(0, 3, 5)], 9, 9)

    def test_book_paper(self):
        book = fill(Net(*DIAMOND), [(0, 2, 3)])
        self.same(("book", *tables_of(book)), book_paper(book))

    def test_lot_paper(self):
        self.same(("lot", (), [], [], []), lot_paper([], []))
        self.same(("lot", ((0, 1, 3), (0, 2, 3), (0, 1, 3)), [4, 5, 2], [0, 2], [4, 5, 6]),
                  lot_paper([[0, 1, 3], (0, 2, 3), [0, 1, 3]], (4, 5, 2)))

    def test_loss_papers(self):
        book = fill(Net(*LADDER), [(0, 2, 5, 6), (0, 2, 4)])
        net = without_road(with_road(book.net, 0, 2, 2), 5, 6)
        wishes = ((1,), (0, 1, 4, 6))
        self.same([], loss_papers(book, book.net))
        self.same([("lost", (), (0, 2, 5), ("road", 2, 5))], loss_papers(book, without_road(book.net, 2, 5))[1:2])
        papers = loss_papers(book, net, [[1], [0, 1, 4, 6]])
        self.same([("lost", wishes, route, reason) for route, reason in losses(book, net, wishes)], papers)
        self.same(["road", "price", "price", "road", "road", "road"], [paper[3][0] for paper in papers])
        self.same([("lost", wishes, (0, 2, 4), ("wish", 1)), ("lost", wishes, (0, 2, 5, 6), ("wish", 1))],
                  loss_papers(book, book.net, wishes))

    def test_the_errors_of_loss_papers(self):
        book = fill(Net(*LADDER))
        self.refused(WrongNet, {"index": 0}, loss_papers, book, Net([1], []), [[9]])
        self.refused(BadRoute, {"index": 0, "at": 0}, loss_papers, book, book.net, [[]])
        self.refused(NotCheapest, {"index": 0, "cheaper": (0, 2, 5)}, loss_papers, book, with_road(book.net, 3, 5, 2),
                     [(0, 3, 5)])
        self.refused(Conflict, {"first": 0, "second": 1, "split": 0, "meeting": 4}, loss_papers, book, book.net,
                     [(0, 1, 4), (0, 2, 4)])

    def test_all_these_papers_hold(self):
        rng = random.Random(63)
        for widths, roads, books in small_nets(6301, 20) + [(*LADDER, books_of(*LADDER))]:
            net = Net(widths, roads)
            every = [route for routes in routes_of(widths, roads).values() for route in routes]
            book = book_from(net, rng.choice(books))
            wishes = some_parts(rng, book.routes)
            for route in every:
                self.same(True, holds(net, price_paper(net, route)))
                self.same(True, holds(net, wish_paper(net, wishes, route)))
            for start, goal in net.pairs:
                self.same(True, holds(net, sure_paper(net, wishes, start, goal)))
            self.same(True, holds(net, book_paper(book)))
            roads_of_a_row = [route for route in book.routes if len(route) == 2 and route[0] < widths[0]]
            self.same(True, holds(net, lot_paper(roads_of_a_row, [rng.randint(0, 9) for _ in roads_of_a_row])))
            changed = Net(widths, [road for road in roads if rng.random() < 0.8])
            for paper in loss_papers(book, changed):
                self.same(True, holds(changed, paper))
            for paper in loss_papers(book, net, some_parts(rng, rng.choice(books))):
                self.same(True, holds(net, paper))


if __name__ == "__main__":
    unittest.main()
