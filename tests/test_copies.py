"""Points 2 and 3: arguments stay as they were, answers are new, lists and tuples count the same, no limit refuses."""

import copy
import unittest

from meetonce.books import Book, climb, images
from meetonce.errors import BadNet, BadRoute, NoRoad, NoRoute, NotAdmissible
from meetonce.nets import Net, with_road, without_road
from meetonce.nettext import net_text, read_net
from meetonce.prices import (cheap_next_places, check_route, is_cheapest, leftmost_route, least_price, price_table,
                             route_price, table_shows)
from meetonce.routes import beside, conflict, is_part, nowhere_right, shared_places
from meetonce.wishes import check_wishes, wish_states
from tests.samples import DIAMOND, LADDER, GuideCase, deep_list, deep_tuple, spoil

NO = None


def book_table():
    """A table of a book of DIAMOND, new each time."""
    return [[NO, 1, 2, 2], [NO, NO, NO, 3], [NO, NO, NO, 3], [NO] * 4]


def net_facts(net):
    """Everything that a net tells."""
    places = range(net.size)
    return (net.widths, net.roads, net.size, net.pairs, list(net), net_text(net),
            [net.places_of(row) for row in range(len(net.widths))],
            [(net.row_of(place), net.column_of(place)) for place in places],
            [(net.next_places(place), net.previous_places(place), price_table(net, place)) for place in places],
            [(net.price_of(a, b), least_price(net, a, b), cheap_next_places(net, a, b))
             for a in places for b in places])


def book_facts(book):
    """Everything that a book tells."""
    pairs = book.net.pairs
    return (net_facts(book.net), book.routes, list(book), book.next_table(), book.previous_table(),
            [(book.route(*pair), book.admissible(*pair), images(book, *pair)) for pair in pairs],
            [climb(book, *pair, place) for pair in pairs for place in book.admissible(*pair)])


class CopiesTest(GuideCase):
    """Point 2."""

    def test_lists_for_a_net_may_be_changed_afterwards(self):
        widths, roads = list(DIAMOND[0]), list(DIAMOND[1])
        net = Net(widths, roads)
        facts = net_facts(net)
        spoil(widths)
        spoil(roads)
        self.same(facts, net_facts(net))

    def test_answers_of_a_net_may_be_changed(self):
        net = Net(*LADDER)
        facts = copy.deepcopy(net_facts(net))
        spoil(net_facts(net))
        for place in range(net.size):
            spoil(net.next_places(place))
            spoil(net.previous_places(place))
            spoil(price_table(net, place))
            spoil(cheap_next_places(net, 0, place))
        for row in range(4):
            spoil(net.places_of(row))
        self.same(facts, net_facts(net))

    def test_a_table_for_a_book_may_be_changed_afterwards(self):
        table = book_table()
        book = Book(Net(*DIAMOND), table)
        facts = book_facts(book)
        for row in table:
            row[:] = [0] * 4
        self.same(facts, book_facts(book))
        table[:] = []
        self.same(facts, book_facts(book))

    def test_answers_of_a_book_may_be_changed(self):
        book = Book(Net(*DIAMOND), book_table())
        facts = copy.deepcopy(book_facts(book))
        spoil(book_facts(book))
        for table in (book.next_table(), book.previous_table()):
            table[0][1] = 77
            spoil(table)
        for answer in (images(book, 0, 3), climb(book, 0, 3, 1), book.admissible(0, 3)):
            spoil(answer)
        self.same(facts, book_facts(book))

    def test_the_rows_of_a_table_are_different_lists(self):
        book = Book(Net([1, 1], []), [[NO, NO], [NO, NO]])
        for table in (book.next_table(), book.previous_table()):
            table[0][0] = 5
            self.same([[5, NO], [NO, NO]], table)

    def test_wishes_may_be_changed_afterwards(self):
        net = Net(*LADDER)
        wishes = [[0, 1, 4], [2, 5]]
        checked = check_wishes(net, wishes)
        spoil(wishes)
        self.same(((0, 1, 4), (2, 5)), checked)
        states = wish_states(net, [[0, 1, 4], [0, 2, 4]])
        spoil(states)
        self.same([NO, ("wish", 0)], wish_states(net, [[0, 1, 4], [0, 2, 4]]))

    def test_a_route_may_be_changed_afterwards(self):
        route = [0, 1, 3]
        checked = check_route(Net(*DIAMOND), route)
        spoil(route)
        self.same((0, 1, 3), checked)

    def test_changed_nets_leave_the_old_one_alone(self):
        net = Net(*DIAMOND)
        facts = net_facts(net)
        with_road(net, 0, 1, 99)
        without_road(net, 0, 1)
        self.same(facts, net_facts(net))

    def calls(self):
        """Functions with arguments that hold lists."""
        net = Net(*LADDER)
        routes = [[0, 1, 4, 6], [0, 2, 4, 6]]
        table = [3, 2, 2, 2, 1, 1, 0]
        wishes = [[0, 1, 4], [2, 5], [0, 1, 4], [6]]
        return [(check_route, net, routes[0]), (route_price, net, routes[1]), (is_cheapest, net, routes[1]),
                (table_shows, net, routes[0], table), (conflict, *routes), (shared_places, *routes),
                (is_part, [2, 4], routes[1]), (nowhere_right, *routes), (beside, *routes),
                (check_wishes, net, wishes), (wish_states, net, wishes + routes)]

    def test_arguments_stay_as_they_were(self):
        for call, *values in self.calls():
            with self.subTest(call.__name__):
                before = repr([value for value in values if isinstance(value, list)])
                call(*values)
                self.assertEqual(before, repr([value for value in values if isinstance(value, list)]))
        widths, roads, table = [1, 2, 1], list(reversed(DIAMOND[1])), book_table()
        book = Book(Net(widths, roads), table)
        route, other = [0, 2, 3], [0, 1, 3]
        self.same([True, False], [route in book, other in book])
        self.same(([0, 2, 3], [0, 1, 3]), (route, other))
        self.same(([1, 2, 1], list(reversed(DIAMOND[1])), book_table()), (widths, roads, table))

    def test_arguments_of_refused_calls_stay_as_they_were(self):
        net = Net(*DIAMOND)
        wishes, table, route = [[0, 1], [0, 3]], [[0] * 4 for _ in range(4)], [0, 3]
        roads = [(0, 2, 1), (0, 1, 1), (0, 1, 2)]
        self.refused(BadRoute, {"index": 1, "at": 1}, check_wishes, net, wishes)
        self.refused(BadRoute, {"index": 0, "at": 1}, check_route, net, route)
        self.refused(BadNet, {"at": 2}, Net, [1, 2], roads)
        with self.assertRaises(ValueError):
            Book(net, table)
        self.same(([[0, 1], [0, 3]], [[0] * 4] * 4, [0, 3], [(0, 2, 1), (0, 1, 1), (0, 1, 2)]),
                  (wishes, table, route, roads))

    def test_lists_and_tuples_count_the_same(self):
        for call, *values in self.calls():
            with self.subTest(call.__name__):
                answer = call(*values)
                for change in (deep_tuple, deep_list):
                    self.same(answer, call(*[change(value) if isinstance(value, list) else value for value in values]))
        lists = Net(list(LADDER[0]), list(LADDER[1]))
        self.same(net_facts(Net(*LADDER)), net_facts(lists))
        self.assertTrue(Net(*LADDER) == lists)
        one = Book(Net(*DIAMOND), book_table())
        for table in (deep_tuple(book_table()), [tuple(row) for row in book_table()], tuple(book_table())):
            self.same(book_facts(one), book_facts(Book(Net(*DIAMOND), table)))

    def test_a_list_and_a_tuple_are_the_same_wish(self):
        net = Net(*LADDER)
        self.same(((0, 1, 4), (0, 1, 4)), check_wishes(net, ([0, 1, 4], (0, 1, 4))))
        self.same([NO, NO, ("wish", 0)], wish_states(net, ([0, 1, 4], (0, 1, 4), [0, 2, 4])))


class LimitsTest(GuideCase):
    """Point 3."""

    def tall_net(self):
        """More rows, places, roads and a higher price than the document's limits."""
        widths = [9] * 15
        roads = []
        for row in range(14):
            for column in range(9):
                start = 9 * row + column
                roads.append((start, start + 9, 3 * 10 ** 9))
                if column < 8:
                    roads.append((start, start + 10, 3 * 10 ** 9))
        return Net(widths, roads)

    def test_larger_nets_are_not_refused(self):
        net = self.tall_net()
        self.same(135, net.size)
        self.same(14 * 17, len(net.roads))
        self.same(14 * 3 * 10 ** 9, least_price(net, 0, 126))
        self.same(tuple(range(0, 135, 9)), leftmost_route(net, 0, 126))
        self.assertTrue(read_net(net_text(net)) == net)

    def test_larger_books_and_lists_of_wishes_are_not_refused(self):
        net = self.tall_net()
        table = [[NO] * net.size for _ in range(net.size)]
        for start, goal in net.pairs:
            table[start][goal] = cheap_next_places(net, start, goal)[0]
        book = Book(net, table)
        self.same(leftmost_route(net, 0, 130), book.route(0, 130))
        wishes = list(book.routes[-250:])
        self.same(tuple(wishes), check_wishes(net, wishes))
        self.same([NO] * 250, wish_states(net, wishes))

    def test_integers_that_are_no_places(self):
        net = Net(*DIAMOND)
        book = Book(net, book_table())
        for other in (-1, -2, -3, -4, -5, 4, 5, 40, 10 ** 59, -10 ** 59):
            fields = {"start": other, "goal": other}
            for call in (book.route, book.next_place, book.previous_place, book.admissible):
                self.refused(NoRoute, fields, call, other, other)
            self.refused(NoRoute, fields, leftmost_route, net, other, other)
            self.refused(NoRoute, fields, images, book, other, other)
            self.refused(NoRoute, fields, climb, book, other, other, other)
            self.refused(NoRoute, {"start": 0, "goal": other}, book.route, 0, other)
            self.refused(NotAdmissible, {"place": other}, climb, book, 0, 3, other)
            self.refused(NoRoad, {"start": other, "end": 3}, without_road, net, other, 3)
            self.refused(NoRoad, {"start": 0, "end": other}, without_road, net, 0, other)
            self.refused(BadNet, {"at": 4}, with_road, net, other, 3, 1)
            self.refused(BadNet, {"at": 4}, with_road, net, 0, other, 1)
            self.refused(BadNet, {"at": 0}, Net, [1, 2, 1], [(other, 3, 1)])
            self.refused(BadRoute, {"index": 0, "at": 1}, check_wishes, net, [[0, other]])


if __name__ == "__main__":
    unittest.main()
