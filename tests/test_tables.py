"""Points 44 and 45: the tables of a book, and their judge."""

import copy
import random
import unittest

from meetonce.filling import fill
from meetonce.nets import Net, with_road
from meetonce.tables import judge, tables_of
from tests.samples import (DIAMOND, LADDER, GuideCase, all_books, cheapest_of, pairs_of, price_in, random_nets,
                           random_routes_of_a_book, routes_of, table_from)

NO = None
FAR = 10 ** 59


def tables_from(widths, roads, kept):
    """The three tables of the routes that are kept."""
    size = sum(widths)
    least = [[NO] * size for _ in range(size)]
    for (start, goal), route in kept.items():
        least[start][goal] = price_in(roads, route)
    return table_from(size, kept), table_from(size, kept, -2), least


def judge_of(widths, roads, tables):
    """Point 45, word by word."""
    size, pairs = sum(widths), pairs_of(widths, roads)
    prices = {(start, end): price for start, end, price in roads}
    seconds, befores, least = tables
    for start in range(size):
        for goal in range(size):
            if (start, goal) not in pairs:
                entries = (seconds[start][goal], befores[start][goal], least[start][goal])
                if entries != (NO, NO, 0 if start == goal else NO):
                    return (start, goal)
    rows = [row for row, width in enumerate(widths) for _ in range(width)]
    for start, goal in pairs:
        e, s, c = seconds[start][goal], befores[start][goal], least[start][goal]
        if NO in (e, s, c) or (start, e) not in prices or (s, goal) not in prices:
            return (start, goal)
        if rows[goal] == rows[start] + 1:
            if (e, s, c) != (goal, start, prices[(start, goal)]):
                return (start, goal)
            continue
        if (e, goal) not in pairs or (start, s) not in pairs:
            return (start, goal)
        if befores[e][goal] != s or seconds[start][s] != e or c != prices[(start, e)] + least[e][goal]:
            return (start, goal)
        if any((x, goal) in pairs and c > prices[(start, x)] + least[x][goal]
               for x in range(size) if (start, x) in prices):
            return (start, goal)
    return None


class TablesOfTest(GuideCase):
    """Point 44."""

    def test_a_small_net(self):
        net = Net(*DIAMOND)
        self.same(([[NO, 1, 2, 2], [NO, NO, NO, 3], [NO, NO, NO, 3], [NO] * 4],
                   [[NO, 0, 0, 2], [NO, NO, NO, 1], [NO, NO, NO, 2], [NO] * 4],
                   [[0, 5, 5, 9], [NO, 0, NO, 4], [NO, NO, 0, 4], [NO, NO, NO, 0]]),
                  tables_of(fill(net, [(0, 2, 3)])))

    def test_negative_prices_and_prices_of_0(self):
        net = Net([1, 2, 1], [(0, 1, -5), (0, 2, 0), (1, 3, 5), (2, 3, 0)])
        self.same([[0, -5, 0, 0], [NO, 0, NO, 5], [NO, NO, 0, 0], [NO, NO, NO, 0]], tables_of(fill(net))[2])
        self.same(None, judge(net, *tables_of(fill(net))))

    def test_nets_of_one_row_and_nets_without_roads(self):
        self.same(([[NO, NO], [NO, NO]], [[NO, NO], [NO, NO]], [[0, NO], [NO, 0]]), tables_of(fill(Net([2], []))))
        self.same(([[NO, NO], [NO, NO]], [[NO, NO], [NO, NO]], [[0, NO], [NO, 0]]), tables_of(fill(Net([1, 1], []))))
        self.same(([[NO]], [[NO]], [[0]]), tables_of(fill(Net([1], []))))

    def test_against_slow_answers(self):
        rng = random.Random(44)
        for widths, roads in random_nets(4401, 30, prices=(-2, -1, 0, 0)) + [LADDER]:
            kept = random_routes_of_a_book(rng, widths, roads)
            book = fill(Net(widths, roads), [route for route in kept.values() if len(route) > 1])
            self.same(tables_from(widths, roads, kept), tables_of(book))


class JudgeTest(GuideCase):
    """Point 45."""

    def setUp(self):
        self.net = Net(*LADDER)
        self.book = fill(self.net, [(0, 1, 4), (0, 2, 5), (2, 5, 6)])
        self.tables = tables_of(self.book)

    def told(self, expected, changes, tables=None, net=None):
        """The judge tells this entry; `changes` are `(table, start, goal, entry)`."""
        changed = copy.deepcopy(self.tables if tables is None else tables)
        for table, start, goal, entry in changes:
            changed[table][start][goal] = entry
        judged = self.net if net is None else net
        self.same(expected, judge(judged, *changed))
        self.same(expected, judge_of(judged.widths, judged.roads, changed))

    def test_right_tables(self):
        for book in all_books(*LADDER) + all_books(*DIAMOND):
            self.same(None, judge(book.net, *tables_of(book)))
        for widths in ([1], [3], [2, 2]):
            self.same(None, judge(Net(widths, []), *tables_of(fill(Net(widths, [])))))
        seconds, befores, least = self.tables
        self.same(None, judge(self.net, least_table=least, previous_table=befores, next_table=seconds))

    def test_entries_that_are_no_pair(self):
        for table in (0, 1):
            for start, goal in ((0, 0), (3, 4), (4, 5), (6, 0), (6, 6), (1, 5)):
                for entry in (0, 4, start, goal, -1, FAR):
                    self.told((start, goal), [(table, start, goal, entry)])
        for start, goal in ((3, 4), (6, 0), (1, 5)):
            self.told((start, goal), [(2, start, goal, 0)])
            self.told((start, goal), [(2, start, goal, -3)])
        for place in range(7):
            for entry in (NO, 1, -1):
                self.told((place, place), [(2, place, place, entry)])

    def test_none_among_the_entries_of_a_pair(self):
        for pair in self.net.pairs:
            for table in (0, 1, 2):
                self.told(pair, [(table, *pair, NO)])
            self.told(pair, [(table, *pair, NO) for table in (0, 1, 2)])

    def test_integers_that_are_no_places(self):
        for start, goal in self.net.pairs:
            for entry in (-1, -2, -3, -4, -5, -6, -7, 7, 8, FAR, -FAR):
                for table in (0, 1):
                    self.told((start, goal), [(table, start, goal, entry)])

    def test_places_without_the_road(self):
        # 0 has roads to 1, 2 and 3 only, and roads to 6 start at 4 and 5 only.
        for entry in (0, 4, 5, 6):
            self.told((0, 6), [(0, 0, 6, entry)])
        for entry in (0, 1, 2, 3, 6):
            self.told((0, 6), [(1, 0, 6, entry)])

    def test_neighbouring_rows(self):
        for start, goal in ((0, 1), (0, 3), (2, 4), (2, 5), (5, 6)):
            for table, entry in ((0, start), (0, goal - 1), (0, goal + 1), (1, start - 1), (1, start + 1), (1, goal),
                                 (2, 0), (2, 2), (2, -1)):
                self.told((start, goal), [(table, start, goal, entry)])
        # A road leads from 2 to 4 as well, and from 1 to 4.
        self.told((2, 5), [(0, 2, 5, 4)])
        self.told((2, 4), [(1, 2, 4, 1)])

    def test_a_place_that_leads_nowhere(self):
        # Roads lead from 0 to 1 and from 3 to 5, but neither 1 to 5 nor 0 to 3 and on to 4.
        self.told((0, 5), [(0, 0, 5, 1)])
        self.told((0, 4), [(0, 0, 4, 3)])
        net = Net([2, 2, 1], [(0, 2, 0), (1, 3, 0), (2, 4, 0), (3, 4, 0)])
        tables = tables_of(fill(net))
        self.told((0, 4), [(1, 0, 4, 3)], tables, net)
        self.told((1, 4), [(0, 1, 4, 2)], tables, net)

    def test_tables_that_do_not_fit_each_other(self):
        # The other second place or the other last place but one alone, then both, which is another book.
        self.told((0, 4), [(0, 0, 4, 2)])
        self.told((0, 4), [(1, 0, 4, 2)])
        self.told((0, 5), [(0, 0, 5, 3), (1, 0, 5, 2)])
        self.told((0, 6), [(0, 0, 6, 2)])
        self.told((0, 6), [(1, 0, 6, 5)])
        self.told(None, [(0, 0, 6, 1), (1, 0, 6, 4)])
        self.told(None, [(0, 0, 6, 2), (1, 0, 6, 5)])
        self.told((0, 6), [(0, 0, 6, 3), (1, 0, 6, 5)])

    def test_a_price_that_is_too_high_or_too_low(self):
        for start, goal in self.net.pairs:
            for change in (-1, 1, FAR):
                price = self.tables[2][start][goal] + change
                self.told((start, goal), [(2, start, goal, price)])

    def test_routes_that_are_not_cheapest(self):
        dear = with_road(self.net, 2, 5, 2)
        tables = tables_from(dear.widths, dear.roads, {(route[0], route[-1]): route for route in self.book})
        for place in range(7):
            tables[2][place][place] = 0
        self.told((0, 5), [], tables, dear)
        # With the routes 0 3 5 and 2 4 6 in their place all is well.
        self.told(None, [(0, 0, 5, 3), (1, 0, 5, 3), (2, 0, 5, 2), (0, 2, 6, 4), (1, 2, 6, 4), (2, 2, 6, 2),
                         (0, 0, 6, 1), (1, 0, 6, 4), (2, 0, 6, 3)], tables, dear)

    def test_the_first_of_several_wrong_entries(self):
        self.told((3, 4), [(0, 0, 1, NO), (2, 0, 6, 9), (0, 3, 4, 1), (1, 6, 6, 1)])
        self.told((0, 0), [(2, 0, 0, NO), (0, 3, 4, 1), (1, 6, 6, 1)])
        # Among the pairs those with fewer rows come first, whatever their numbers are.
        self.told((5, 6), [(2, 0, 6, 9), (2, 0, 4, 9), (2, 5, 6, 9)])
        self.told((0, 4), [(2, 0, 6, 9), (2, 3, 6, 9), (2, 0, 4, 9)])
        self.told((3, 6), [(2, 0, 6, 9), (2, 3, 6, 9)])

    def test_an_entry_may_be_the_size_or_an_index_from_the_end(self):
        net = Net([1, 1], [(0, 1, 5)])
        tables = tables_of(fill(net))
        for entry in (-1, -2, 2, 0):
            self.told((0, 1), [(0, 0, 1, entry)], tables, net)
        for entry in (-1, -2, 2, 1):
            self.told((0, 1), [(1, 0, 1, entry)], tables, net)

    def test_against_slow_answers(self):
        rng = random.Random(45)
        for widths, roads in random_nets(4501, 80, most_rows=6, most_places=3, prices=(-1, 0, 0)):
            net = Net(widths, roads)
            kept = random_routes_of_a_book(rng, widths, roads)
            tables = tables_from(widths, roads, kept)
            self.told(None, [], tables, net)
            for _ in range(12):
                changes = [self.some_change(rng, net, tables) for _ in range(rng.choice([1, 1, 2, 3]))]
                changed = copy.deepcopy(tables)
                for table, start, goal, entry in changes:
                    changed[table][start][goal] = entry
                self.told(judge_of(widths, roads, changed), changes, tables, net)

    def some_change(self, rng, net, tables):
        """A change of one entry, most often of a pair."""
        table = rng.randrange(3)
        start, goal = rng.choice(net.pairs) if net.pairs and rng.random() < 0.9 else (
            rng.randrange(net.size), rng.randrange(net.size))
        old = tables[table][start][goal]
        near = [NO, 0, -1, net.size] if old is None else [old - 1, old + 1, old, NO]
        return (table, start, goal, rng.choice(near + [rng.randrange(net.size)]))

    def test_tables_of_any_routes(self):
        rng = random.Random(4502)
        for widths, roads in random_nets(4503, 40, most_rows=6, most_places=3, prices=(-1, 0, 0)):
            net = Net(widths, roads)
            for routes in (routes_of(widths, roads), cheapest_of(widths, roads)):
                kept = {ends: rng.choice(some) for ends, some in routes.items()}
                self.told(judge_of(widths, roads, tables_from(widths, roads, kept)), [],
                          tables_from(widths, roads, kept), net)


if __name__ == "__main__":
    unittest.main()
