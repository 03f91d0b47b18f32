"""Points 2 and 3 for what works with whole books: fillings, intervals, changes, tables, signposts and relays."""

import unittest

from meetonce.changes import amend, losses, turn
from meetonce.errors import NoRoute, NotAdmissible
from meetonce.filling import choices_of, fill
from meetonce.intervals import Interval, between, clamp, common, follows, interval_of, possible
from meetonce.letters import Relay
from meetonce.nets import Net, with_road
from meetonce.order import is_left, join_of, leftmost, meet_of, rightmost
from meetonce.signs import Signpost
from meetonce.tables import judge, tables_of
from tests.copies import CopiesTests, facts
from tests.samples import DIAMOND, LADDER, GuideCase, spoil

NO = None


def fill_with(net, wishes, choices):
    """`fill` with all arguments by position."""
    return fill(net, wishes, choices=choices)


def between_with(interval, choices):
    """`between` with all arguments by position."""
    return between(interval, choices=choices)


def turn_with(book, place, wishes):
    """`turn` of the pair of 0 and 6."""
    return turn(book, 0, 6, place, wishes=wishes)


def some_wishes():
    """Wishes that fit together."""
    return [[0, 1, 4], [6], [0, 1, 4], [0, 1, 4, 6]]


def calls():
    """Functions with their arguments, new each time; what is a list holds lists wherever it can."""
    net = Net(*LADDER)
    book = fill(net, [(0, 1, 4, 6), (0, 3, 5)])
    dear = with_road(net, 2, 4, 2)
    return [(fill, net, some_wishes()), (fill_with, net, some_wishes(), [1, 1, 0]), (fill_with, net, [], [1, 0, 5]),
            (choices_of, book, some_wishes()), (leftmost, net, some_wishes()), (rightmost, net, some_wishes()),
            (meet_of, [book, rightmost(net), leftmost(net)]), (join_of, [book, leftmost(net), rightmost(net)]),
            (interval_of, net, some_wishes()), (between_with, interval_of(net), [1, 0, 1, 1]),
            (possible, net, some_wishes(), [0, 3, 5, 6]), (follows, net, some_wishes(), [1, 4, 6]),
            (amend, book, dear, some_wishes()), (losses, rightmost(net), dear, some_wishes()),
            (turn_with, book, 3, [[0, 3, 5], [2]]), (judge, net, *tables_of(book)),
            (judge, net, *tables_of(book)[:2], [[1] * 7 for _ in range(7)])]


class ListsTest(CopiesTests, GuideCase):
    """Point 2."""

    def calls(self):
        """The calls that the shared tests look at."""
        return calls()

    def test_answers_of_a_book_and_an_interval_may_be_changed(self):
        book = fill(Net(*LADDER))
        interval = Interval(book, rightmost(book.net))
        told = (facts(book), facts(interval), tables_of(book))
        spoil(tables_of(book))
        for table in tables_of(book):
            table[0][1] = 77
            del table[3]
        spoil(choices_of(book))
        spoil(list(interval.sure_routes()))
        self.same(told, (facts(book), facts(interval), tables_of(book)))

    def test_the_rows_of_the_tables_are_different_lists(self):
        tables = tables_of(fill(Net([2], [])))
        for table in tables:
            table[0][0] = 5
        self.same(([[5, NO], [NO, NO]], [[5, NO], [NO, NO]], [[5, NO], [NO, 0]]), tables)

    def test_arguments_that_are_objects_stay_as_they_were(self):
        net = Net(*LADDER)
        left, right = leftmost(net), rightmost(net)
        whole, part = Interval(left, right), interval_of(net, [(0, 2, 4)])
        told = [facts(each) for each in (left, right, whole, part)]
        is_left(left, right)
        clamp(part, left)
        common(whole, part)
        between(whole, choices=[1, 1])
        turn(left, 0, 4, 2)
        amend(right, with_road(net, 0, 2, 5))
        Signpost(left, 0)
        relay = Relay(left)
        relay.issue(right)
        relay.deliver(1, 0)
        relay.bounds(0, 6)
        self.same(told, [facts(each) for each in (left, right, whole, part)])

    def test_answers_of_a_relay_may_be_changed(self):
        relay = Relay(leftmost(Net(*DIAMOND)))
        relay.issue(rightmost(Net(*DIAMOND)))
        relay.deliver(1, 3)
        spoil(relay.in_use())
        relay.in_use().append(9)
        self.same(([0, 1], [0, 0, 0, 1]), (relay.in_use(), [relay.version_at(place) for place in range(4)]))

    def test_kinds_of_the_answers(self):
        book = fill(Net(*DIAMOND), [[0, 2, 3]])
        interval = interval_of(book.net)
        self.same([], losses(book, book.net))
        self.same([((0, 2, 3), ("wish", 0))], losses(book, book.net, [[0, 1, 3]]))
        self.same([((0, 2, 3), ("price", (0, 1, 3)))], losses(book, with_road(book.net, 0, 2, 9)))
        self.same(([1], []), (choices_of(book), choices_of(book, [[0, 2, 3]])))
        self.same(((0, 1), (0, 2), (1, 3), (2, 3)), interval.sure_routes())
        self.same((False, True), (interval.single(), possible(book.net, [], [0, 1])))
        self.same(((0, 2, 3), ((0, 2, 3), (0, 2, 3))), (Relay(book).walk(0, 3), Relay(book).bounds(0, 3)))


class LimitsTest(GuideCase):
    """Point 3."""

    def tall_net(self):
        """More rows, places and roads and a higher price than the document's limits."""
        roads = []
        for row in range(13):
            for column in range(4):
                start = 4 * row + column
                roads.append((start, start + 4, 3 * 10 ** 9))
                if column < 3:
                    roads.append((start, start + 5, 3 * 10 ** 9))
        return Net([4] * 14, roads)

    def test_larger_nets_and_lists_are_not_refused(self):
        net = self.tall_net()
        book = fill(net, choices=[1] * 400)
        self.assertTrue(fill(net, book.routes, choices=[0] * 500) == book)
        self.assertTrue(fill(net, choices=choices_of(book)) == book)
        self.assertTrue(join_of([book] * 300) == book)
        self.assertTrue(amend(book, net, book.routes[:400]) == book)
        self.same([], losses(book, net, list(book.routes)))
        self.same(None, judge(net, *tables_of(book)))
        self.same(True, book in interval_of(net, book.routes[-300:]))
        self.same(book.next_place(0, 55), Signpost(book, 0)(55))

    def test_larger_numbers_of_versions_are_not_refused(self):
        book = fill(Net(*DIAMOND))
        relay = Relay(book)
        for number in range(1, 300):
            self.same(number, relay.issue(book))
        for place in range(4):
            relay.deliver(296 + place, place)
        self.same([296, 297, 298, 299], relay.in_use())
        self.same(((0, 1, 3), (0, 1, 3)), relay.bounds(0, 3))

    def test_integers_that_are_no_places(self):
        book = fill(Net(*DIAMOND))
        relay, post = Relay(book), Signpost(book, 0)
        for other in (-1, -2, -3, -4, -5, 4, 5, 40, 10 ** 59, -10 ** 59):
            fields = {"start": other, "goal": other}
            for call in (relay.next_place, relay.walk, relay.bounds):
                self.refused(NoRoute, fields, call, other, other)
            self.refused(NoRoute, fields, turn, book, other, other, other)
            self.refused(NoRoute, {"start": 0, "goal": other}, turn, book, 0, other, 1)
            self.refused(NoRoute, {"start": 0, "goal": other}, post, other)
            self.refused(NotAdmissible, {"place": other}, turn, book, 0, 3, other)


if __name__ == "__main__":
    unittest.main()
