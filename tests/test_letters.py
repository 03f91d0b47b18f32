"""Points 47 and 48: relays."""

import random
import unittest

from meetonce.errors import NoRoute, NoVersion, WrongNet
from meetonce.filling import fill
from meetonce.letters import Relay
from meetonce.nets import Net, with_road, without_road
from meetonce.order import join_of, meet_of, rightmost
from tests.samples import DIAMOND, LADDER, GuideCase, all_books, book_from, books_of, left_of, small_nets

FAR = 10 ** 59


def state(relay, size):
    """Everything that a relay tells of its versions."""
    return [relay.version_at(place) for place in range(size)], relay.in_use(), relay.settled()


class VersionsTest(GuideCase):
    """Point 47."""

    def setUp(self):
        self.left, self.right = all_books(*DIAMOND)
        self.relay = Relay(self.left)

    def test_a_new_relay(self):
        self.same(([0, 0, 0, 0], [0], True), state(self.relay, 4))
        self.same(([0], [0], True), state(Relay(book=fill(Net([1], []))), 1))

    def test_versions_are_numbered(self):
        self.same([1, 2, 3], [self.relay.issue(book) for book in (self.right, self.left, self.right)])
        self.same(([0, 0, 0, 0], [0], False), state(self.relay, 4))

    def test_letters(self):
        self.relay.issue(self.right)
        self.same(True, self.relay.deliver(1, 2))
        self.same(([0, 0, 1, 0], [0, 1], False), state(self.relay, 4))
        self.same([True, True, True], [self.relay.deliver(version=1, place=place) for place in (0, 3, 1)])
        self.same(([1, 1, 1, 1], [1], True), state(self.relay, 4))
        self.relay.issue(self.left)
        self.same(([1, 1, 1, 1], [1], False), state(self.relay, 4))

    def test_letters_in_any_order(self):
        for book in (self.right, self.left, self.right):
            self.relay.issue(book)
        steps = [(2, 0, True), (1, 0, False), (2, 0, False), (0, 0, False), (3, 0, True), (2, 0, False), (3, 0, False),
                 (1, 1, True), (3, 1, True), (0, 2, False), (1, 2, True), (2, 2, True)]
        for version, place, expected in steps:
            self.same(expected, self.relay.deliver(version, place))
        self.same(([3, 3, 2, 0], [0, 2, 3], False), state(self.relay, 4))
        self.same([True, True], [self.relay.deliver(3, 2), self.relay.deliver(3, 3)])
        self.same(([3, 3, 3, 3], [3], True), state(self.relay, 4))

    def test_no_such_version(self):
        for version in (1, 2, -1, -2, FAR, -FAR):
            self.refused(NoVersion, {"version": version}, self.relay.deliver, version, 0)
        self.relay.issue(self.right)
        self.relay.deliver(1, 0)
        before = state(self.relay, 4)
        for version in (2, -1, -2, FAR):
            for place in range(4):
                self.refused(NoVersion, {"version": version}, self.relay.deliver, version, place)
        self.same(before, state(self.relay, 4))

    def test_other_widths(self):
        for widths in ([1, 2], [1, 1, 2], [4], [1, 2, 1, 1], [2, 1, 1]):
            self.refused(WrongNet, {"index": 0}, self.relay.issue, fill(Net(widths, [])))
        self.same(([0, 0, 0, 0], [0], True), state(self.relay, 4))
        self.refused(NoVersion, {"version": 1}, self.relay.deliver, 1, 0)
        self.same(1, self.relay.issue(self.right))
        self.refused(WrongNet, {"index": 0}, self.relay.issue, fill(Net([4], [])))
        self.same(2, self.relay.issue(self.left))

    def test_other_nets_with_the_same_widths(self):
        self.same(1, self.relay.issue(fill(Net(DIAMOND[0], []))))
        self.same(2, self.relay.issue(fill(with_road(self.left.net, 0, 1, -7))))
        self.same([True, True], [self.relay.deliver(1, 0), self.relay.deliver(2, 1)])

    def test_relays_do_not_share_their_places(self):
        other = Relay(self.left)
        self.relay.issue(self.right)
        self.relay.deliver(1, 0)
        self.same(([0, 0, 0, 0], [0], True), state(other, 4))


class WalksTest(GuideCase):
    """Point 48: the next places and the walks."""

    def setUp(self):
        net = Net(*LADDER)
        self.books = [fill(net, [(0, 1, 4, 6), (2, 4, 6), (0, 2, 5)]), rightmost(net)]
        self.relay = Relay(self.books[0])
        self.relay.issue(self.books[1])

    def test_next_places(self):
        self.same([1, 2, 4, 6], [self.relay.next_place(*pair) for pair in ((0, 6), (0, 5), (2, 6), (5, 6))])
        self.relay.deliver(1, 0)
        self.same([3, 3, 4, 6], [self.relay.next_place(*pair) for pair in ((0, 6), (0, 5), (2, 6), (5, 6))])
        self.relay.deliver(1, 2)
        self.same([3, 5], [self.relay.next_place(goal=6, place=0), self.relay.next_place(2, 6)])

    def test_a_place_and_itself(self):
        for place in range(7):
            self.same((place, (place,)), (self.relay.next_place(place, place), self.relay.walk(place, place)))
            self.same(((place,), (place,)), self.relay.bounds(place, place))

    def test_walks(self):
        self.same([(0, 1, 4, 6), (0, 2, 5), (2, 4, 6)],
                  [self.relay.walk(*pair) for pair in ((0, 6), (0, 5), (2, 6))])
        self.relay.deliver(1, 0)
        self.same([(0, 3, 5, 6), (0, 3, 5), (2, 4, 6)],
                  [self.relay.walk(*pair) for pair in ((0, 6), (0, 5), (2, 6))])

    def test_a_walk_through_places_with_different_versions(self):
        net = Net(*LADDER)
        relay = Relay(fill(net, [(0, 2, 4, 6)]))
        relay.issue(fill(net, [(0, 3, 5, 6), (2, 5, 6)]))
        relay.deliver(1, 2)
        # Neither version has this route from 0 to 6.
        self.same((0, 2, 5, 6), relay.walk(start=0, goal=6))
        relay.deliver(1, 0)
        self.same((0, 3, 5, 6), relay.walk(0, 6))

    def test_no_route(self):
        for call in (self.relay.next_place, self.relay.walk, self.relay.bounds):
            for start, goal in ((6, 0), (1, 5), (4, 5), (7, 7), (-1, -1), (-7, 6), (0, 7), (0, -1), (7, 0),
                                (FAR, -FAR)):
                self.refused(NoRoute, {"start": start, "goal": goal}, call, start, goal)

    def test_no_route_after_letters(self):
        for place in range(7):
            self.relay.deliver(1, place)
        self.test_no_route()

    def test_a_walk_that_ends_on_the_way(self):
        net = Net(*LADDER)
        self.relay.issue(fill(without_road(net, 4, 6)))
        self.relay.deliver(2, 4)
        self.refused(NoRoute, {"start": 4, "goal": 6}, self.relay.walk, 0, 6)
        self.refused(NoRoute, {"start": 4, "goal": 6}, self.relay.next_place, 4, 6)
        self.same((0, 1), (0, self.relay.next_place(0, 6)))
        self.relay.deliver(2, 0)
        self.same((0, 2, 5), self.relay.walk(0, 5))
        closed = fill(Net(LADDER[0], []))
        self.relay.issue(closed)
        self.relay.deliver(3, 2)
        self.refused(NoRoute, {"start": 2, "goal": 5}, self.relay.walk, 0, 5)
        self.same((0, 2), self.relay.walk(0, 2))

    def test_a_route_that_all_versions_keep(self):
        net = Net(*LADDER)
        nets = [net, with_road(net, 0, 2, 0), without_road(net, 1, 4), with_road(net, 4, 6, 0)]
        relay = Relay(fill(nets[0], [(0, 2, 4, 6)]))
        for at, other in enumerate(nets[1:], start=1):
            relay.issue(fill(other, [(0, 2, 4, 6)]))
            relay.deliver(at, 2 * (at - 1))
            self.same((0, 2, 4, 6), relay.walk(0, 6))


class BoundsTest(GuideCase):
    """Point 48: the bounds of a walk."""

    def test_one_version(self):
        left, right = all_books(*DIAMOND)
        relay = Relay(left)
        self.same(((0, 1, 3), (0, 1, 3)), relay.bounds(0, 3))
        relay.issue(right)
        self.same(((0, 1, 3), (0, 1, 3)), relay.bounds(0, 3))
        for place in range(4):
            relay.deliver(1, place)
        self.same(((0, 2, 3), (0, 2, 3)), relay.bounds(start=0, goal=3))

    def test_several_versions_of_one_net(self):
        net = Net(*LADDER)
        books = [fill(net, [(0, 1, 4), (0, 2, 5, 6)]), fill(net, [(0, 2, 4, 6)]), rightmost(net)]
        relay = Relay(books[0])
        relay.issue(books[1])
        relay.issue(books[2])
        relay.deliver(1, 6)
        # Pair by pair the left one is 0 2 5 6, but the meet goes by 1.
        self.same(((0, 1, 4, 6), join_of(books[:2]).route(0, 6)), relay.bounds(0, 6))
        relay.deliver(2, 5)
        self.same(((0, 1, 4), (0, 2, 4)), relay.bounds(0, 4))
        self.same(((0, 1, 4, 6), (0, 3, 5, 6)), relay.bounds(0, 6))

    def test_versions_of_different_nets(self):
        net = Net(*LADDER)
        wrong = fill(with_road(net, 0, 1, 7))
        relay = Relay(fill(net))
        for book in (wrong, fill(net), wrong, rightmost(net)):
            relay.issue(book)
        self.same(((0, 1, 4, 6), (0, 1, 4, 6)), relay.bounds(0, 6))
        relay.deliver(2, 0)
        relay.deliver(3, 1)
        # The versions in use are 0, 2 and 3.
        self.refused(WrongNet, {"index": 2}, relay.bounds, 0, 6)
        self.refused(WrongNet, {"index": 2}, relay.bounds, 6, 0)
        self.refused(WrongNet, {"index": 2}, relay.bounds, 9, 9)
        relay.deliver(1, 2)
        self.refused(WrongNet, {"index": 1}, relay.bounds, 0, 6)
        for place in range(7):
            relay.deliver(4 if place == 1 else 3, place)
        self.refused(WrongNet, {"index": 1}, relay.bounds, 0, 6)
        relay.deliver(4, 0)
        for place in range(7):
            relay.deliver(4, place)
        self.same(((0, 3, 5, 6), (0, 3, 5, 6)), relay.bounds(0, 6))

    def test_walks_lie_between_their_bounds(self):
        rng = random.Random(48)
        for widths, roads, books in small_nets(4801, 20) + [(*LADDER, books_of(*LADDER))]:
            net = Net(widths, roads)
            some = [book_from(net, rng.choice(books)) for _ in range(4)]
            relay = Relay(some[0])
            for book in some[1:]:
                relay.issue(book)
            for _ in range(net.size):
                relay.deliver(rng.randrange(4), rng.randrange(net.size))
                pair = rng.choice([pair for pair in net.pairs if net.row_of(pair[1]) - net.row_of(pair[0]) > 1])
                used = [some[version] for version in relay.in_use()]
                self.same((meet_of(used).route(*pair), join_of(used).route(*pair)), relay.bounds(*pair))
                self.check_walks(relay, some, net)

    def check_walks(self, relay, some, net):
        """Each walk lies between its bounds, and each step is that of the version of the place."""
        used = [some[version] for version in relay.in_use()]
        low, high = meet_of(used), join_of(used)
        for pair in net.pairs:
            walk = relay.walk(*pair)
            self.assertTrue(left_of([low.route(*pair)], [walk]) and left_of([walk], [high.route(*pair)]))
            expected = [pair[0]]
            while expected[-1] != pair[1]:
                expected.append(some[relay.version_at(expected[-1])].next_place(expected[-1], pair[1]))
            self.same(tuple(expected), walk)


if __name__ == "__main__":
    unittest.main()
