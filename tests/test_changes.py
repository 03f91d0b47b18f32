"""Points 41 to 43: a book on a changed net, what it loses, and another place at one pair."""

import random
import unittest

from meetonce.changes import amend, losses, turn
from meetonce.errors import BadRoute, Conflict, Forced, NoRoute, NotAdmissible, NotCheapest, NotKept, WrongNet
from meetonce.filling import fill
from meetonce.nets import Net, with_road, without_road
from meetonce.order import leftmost, rightmost
from tests.samples import (DIAMOND, LADDER, GuideCase, admissible_of, all_books, book_from, books_of, cheapest_of,
                           conflict_of, keeps, left_of, small_nets, some_parts)

FAR = 10 ** 59


def left_book(routes):
    """The routes of the one of the books that is nowhere right of all others."""
    found = [one for one in routes if all(left_of(one, other) for other in routes)]
    return found[0]


def losses_of(routes, roads, cheapest, wishes):
    """Point 42, word by word."""
    found = []
    for route in routes:
        gaps = [step for step in zip(route, route[1:]) if step not in [road[:2] for road in roads]]
        clashes = [at for at, wish in enumerate(wishes) if not gaps and conflict_of(tuple(wish), route)]
        if gaps:
            found.append((route, ("road",) + gaps[0]))
        elif route not in cheapest[(route[0], route[-1])]:
            found.append((route, ("price", cheapest[(route[0], route[-1])][0])))
        elif clashes:
            found.append((route, ("wish", clashes[0])))
    return found


def changed_roads(rng, roads):
    """The roads with some gone and some with another price."""
    changed = []
    for start, end, price in roads:
        kind = rng.random()
        if kind > 0.12:
            changed.append((start, end, price + rng.choice([-1, 1]) if kind < 0.3 else price))
    return changed


class AmendTest(GuideCase):
    """Points 41 and 42 together: what survives and why the rest does not."""

    def check(self, book, net, wishes, expected_losses):
        """The result keeps the wishes and just the surviving routes, and is the leftmost such book."""
        self.same(expected_losses, losses(book, net, wishes))
        amended = amend(book, net, wishes)
        self.assertTrue(amended.net == net)
        lost = [route for route, _ in expected_losses]
        self.same([route for route in book.routes if route not in lost],
                  [route for route in book.routes if route in amended])
        keeping = [routes for routes in books_of(net.widths, net.roads)
                   if all(keeps(routes, route) for route in list(wishes) + [kept for kept in book.routes
                                                                           if kept not in lost])]
        self.same(left_book(keeping), amended.routes)
        return amended

    def test_nothing_changes(self):
        for book in all_books(*LADDER):
            self.assertTrue(self.check(book, book.net, [], []) == book)
            self.check(book, Net(LADDER[0], reversed(LADDER[1])), [[0], book.route(0, 6), (2, 4)], [])
        self.same([], losses(fill(Net(*DIAMOND)), Net(*DIAMOND)))

    def test_a_road_that_is_gone(self):
        book = fill(Net(*LADDER), [(0, 2, 5, 6), (0, 2, 4)])
        net = without_road(book.net, 2, 5)
        reason = ("road", 2, 5)
        amended = self.check(book, net, [], [((2, 5), reason), ((0, 2, 5), reason), ((2, 5, 6), reason),
                                             ((0, 2, 5, 6), reason)])
        # From 0 to 6 the leftmost admissible place is taken: 1 is none, because 0 2 4 is kept.
        self.same([(0, 2, 4), (0, 3, 5), (2, 4, 6), (0, 2, 4, 6)],
                  [amended.route(*pair) for pair in ((0, 4), (0, 5), (2, 6), (0, 6))])

    def test_prices_that_rise_or_fall(self):
        book = fill(Net(*LADDER), [(0, 2, 5, 6), (0, 2, 4)])
        self.check(book, with_road(book.net, 2, 5, 2), [], [
            ((0, 2, 5), ("price", (0, 3, 5))), ((2, 5, 6), ("price", (2, 4, 6))),
            ((0, 2, 5, 6), ("price", (0, 1, 4, 6)))])
        self.check(book, with_road(book.net, 1, 4, -3), [], [
            ((0, 2, 4), ("price", (0, 1, 4))), ((0, 2, 5, 6), ("price", (0, 1, 4, 6)))])
        self.check(book, with_road(book.net, 2, 5, 0), [], [])

    def test_a_wish_that_displaces_routes(self):
        book = fill(Net(*LADDER), [(0, 2, 5, 6), (0, 2, 4)])
        amended = self.check(book, book.net, [[0, 3, 5]], [((0, 2, 5), ("wish", 0)), ((0, 2, 5, 6), ("wish", 0))])
        self.same([(0, 3, 5), (0, 3, 5, 6)], [amended.route(0, 5), amended.route(0, 6)])
        self.check(book, book.net, ((5,), (0, 3), (2, 4, 6), (0, 3, 5)), [
            ((0, 2, 5), ("wish", 3)), ((2, 5, 6), ("wish", 2)), ((0, 2, 5, 6), ("wish", 2))])
        self.check(book, book.net, [(0, 3), (0, 1, 4, 6), (0, 1, 4)], [
            ((0, 2, 4), ("wish", 1)), ((0, 2, 5, 6), ("wish", 1))])

    def test_all_of_these_at_once(self):
        book = fill(Net(*LADDER), [(0, 2, 5, 6), (0, 2, 4)])
        net = without_road(with_road(book.net, 0, 2, 2), 5, 6)
        # The route 0 2 5 6 is dear and conflicts with the wish as well: the road comes first.
        self.check(book, net, [[0, 1, 4, 6]], [
            ((5, 6), ("road", 5, 6)), ((0, 2, 4), ("price", (0, 1, 4))), ((0, 2, 5), ("price", (0, 3, 5))),
            ((2, 5, 6), ("road", 5, 6)), ((3, 5, 6), ("road", 5, 6)), ((0, 2, 5, 6), ("road", 5, 6))])
        net = without_road(without_road(book.net, 0, 2), 5, 6)
        self.same(("road", 0, 2), dict(losses(book, net))[(0, 2, 5, 6)])

    def test_a_lost_route_is_filled_anew_with_the_leftmost_place(self):
        # The old route 0 3 5 6 loses its last road; its part 0 3 5 stays, and 0 to 6 goes by 1 and not by 3.
        book = fill(Net(*LADDER), [(0, 3, 5, 6)])
        amended = amend(book, without_road(book.net, 5, 6))
        self.same([(0, 3, 5), (0, 1, 4, 6)], [amended.route(0, 5), amended.route(0, 6)])
        three = Net([1, 3, 1], [(0, 1, 0), (0, 2, 0), (0, 3, 0), (1, 4, 0), (2, 4, 0), (3, 4, 0)])
        self.same((0, 1, 4), amend(fill(three, [(0, 3, 4)]), without_road(three, 3, 4)).route(0, 4))
        self.same((0, 3, 4), amend(fill(three, [(0, 3, 4)]), without_road(three, 1, 4)).route(0, 4))

    def test_new_roads_do_not_displace_kept_routes(self):
        book = rightmost(without_road(Net(*LADDER), 1, 4))
        amended = self.check(book, Net(*LADDER), [], [])
        self.same((0, 2, 4), amended.route(0, 4))
        self.same((0, 1, 4), amend(leftmost(Net([1, 3, 2, 1], [])), Net(*LADDER)).route(0, 4))

    def test_other_widths(self):
        book = fill(Net(*LADDER))
        for widths in ([1, 2, 3, 1], [7], [1, 3, 3], [1, 3, 2], [1, 3, 2, 1, 1]):
            for call in (amend, losses):
                self.refused(WrongNet, {"index": 0}, call, book, Net(widths, []))
                # The widths come before the wishes.
                self.refused(WrongNet, {"index": 0}, call, book, Net(widths, []), [[9]])
        self.same((), amend(book, Net([1, 3, 2, 1], [])).routes)

    def test_the_wishes_are_checked_in_the_new_net(self):
        book = fill(Net(*LADDER))
        closed, dear = without_road(book.net, 2, 4), with_road(book.net, 0, 2, 2)
        for call in (amend, losses):
            self.refused(BadRoute, {"index": 1, "at": 2}, call, book, closed, [[0, 1], (0, 2, 4)])
            self.refused(NotCheapest, {"index": 0, "cheaper": (0, 1, 4)}, call, book, dear, [(0, 2, 4)])
            self.refused(Conflict, {"first": 0, "second": 1, "split": 0, "meeting": 5}, call, book, closed,
                         [(0, 3, 5), (0, 2, 5, 6)])
        self.same((0, 2, 4), amend(fill(dear), book.net, [(0, 2, 4)]).route(0, 4))

    def test_against_slow_answers(self):
        rng = random.Random(41)
        for widths, roads, books in small_nets(4101, 60) + [(*LADDER, books_of(*LADDER))] * 6:
            changed = changed_roads(rng, roads) if rng.random() < 0.8 else list(roads)
            new_books = books_of(widths, changed)
            if new_books is None:
                continue
            book, net = book_from(Net(widths, roads), rng.choice(books)), Net(widths, changed)
            wishes = some_parts(rng, rng.choice(new_books))
            self.check(book, net, wishes, losses_of(book.routes, changed, cheapest_of(widths, changed), wishes))


class TurnTest(GuideCase):
    """Point 43."""

    def test_another_place(self):
        left, right = all_books(*DIAMOND)
        self.assertTrue(turn(left, 0, 3, 2) == right)
        self.assertTrue(turn(right, 0, 3, 1) == left)
        book = fill(Net(*LADDER), [(0, 1, 4), (0, 2, 5, 6)])
        turned = turn(book, 0, 5, 3)
        self.same([(0, 1, 4), (0, 3, 5), (2, 5, 6), (0, 1, 4, 6)],
                  [turned.route(*pair) for pair in ((0, 4), (0, 5), (2, 6), (0, 6))])

    def test_the_second_place_of_the_book(self):
        for book in all_books(*LADDER):
            for start, goal in book.net.pairs:
                self.assertTrue(turn(book, start, goal, book.next_place(start, goal)) == book)
                self.assertTrue(turn(book, start, goal, book.next_place(start, goal),
                                     wishes=[book.route(start, goal)]) == book)

    def test_wishes_are_checked_first(self):
        net = Net(*LADDER)
        book = fill(net, [(0, 1, 4)])
        for wishes in ([[0, 1], (0, 4)], ((0, 2, 4), (0, 4))):
            self.refused(BadRoute, {"index": 1, "at": 1}, lambda: turn(book, 9, 9, 9, wishes=wishes))
        self.refused(Conflict, {"first": 0, "second": 1, "split": 0, "meeting": 4},
                     lambda: turn(book, 6, 0, 0, wishes=[(0, 2, 4), (0, 1, 4)]))
        dear = fill(with_road(net, 0, 2, 2))
        self.refused(NotCheapest, {"index": 1, "cheaper": (0, 1, 4)},
                     lambda: turn(dear, 6, 0, 0, wishes=[(2, 5, 6), (0, 2, 4)]))

    def test_wishes_that_the_book_does_not_keep(self):
        book = fill(Net(*LADDER), [(0, 1, 4)])
        self.refused(NotKept, {"index": 1}, lambda: turn(book, 9, -1, FAR, wishes=[(0, 3), (0, 2, 4), (2, 5, 6)]))
        self.refused(NotKept, {"index": 0}, lambda: turn(book, 0, 4, 2, wishes=[(0, 2, 4)]))

    def test_no_pair(self):
        book = fill(Net(*LADDER))
        for start, goal in ((0, 0), (6, 0), (1, 5), (4, 5), (7, 7), (-1, -1), (-7, 6), (0, 7), (0, -1), (FAR, -FAR)):
            for place in (start, goal, 9):
                self.refused(NoRoute, {"start": start, "goal": goal}, turn, book, start, goal, place)
                self.refused(NoRoute, {"start": start, "goal": goal},
                             lambda: turn(book, start, goal, place, wishes=[(0, 1, 4, 6)]))

    def test_places_that_are_not_admissible(self):
        book = fill(Net(*LADDER), [(0, 2, 4), (0, 3, 5)])
        self.same([2, 3], book.admissible(0, 6))
        for place in (1, 0, 4, 6, 7, -1, FAR):
            self.refused(NotAdmissible, {"place": place}, turn, book, 0, 6, place)
            self.refused(NotAdmissible, {"place": place},
                         lambda: turn(book, 0, 6, place, wishes=[book.route(0, 6)]))
        self.refused(NotAdmissible, {"place": 0}, turn, book, 0, 3, 0)

    def test_forced(self):
        book = fill(Net(*LADDER), [(0, 1, 4, 6), (0, 2, 5), (2, 5, 6)])
        wishes = [(0, 1, 4), [2, 5], [0, 1, 4, 6], (0, 1, 4, 6), (0, 2, 5)]
        self.refused(Forced, {"index": 0}, lambda: turn(book, 0, 4, 2, wishes=wishes))
        self.refused(Forced, {"index": 2}, lambda: turn(book, 0, 4, 2, wishes=wishes[1:2] + [(4,)] + wishes[2:]))
        self.refused(Forced, {"index": 4}, lambda: turn(book, 0, 5, 3, wishes=wishes))
        self.assertTrue(turn(book, 0, 4, 1, wishes=wishes) == book)
        self.same((2, 4, 6), turn(book, 2, 6, 4, wishes=wishes).route(2, 6))

    def test_a_wish_is_kept_by_a_turn_that_it_does_not_force(self):
        book = fill(Net(*LADDER), [(0, 1, 4, 6), (0, 2, 5)])
        turned = turn(book, 0, 5, 3, wishes=[(0, 1, 4, 6), (0, 2)])
        self.same([(0, 1, 4, 6), (0, 3, 5)], [turned.route(0, 6), turned.route(0, 5)])

    def test_wishes_are_passed_by_name(self):
        with self.assertRaises(TypeError):
            turn(fill(Net(*DIAMOND)), 0, 3, 2, [])

    def test_against_slow_answers(self):
        for widths, roads, books in small_nets(4301, 10, most=50) + [(*LADDER, books_of(*LADDER))]:
            net, cheapest = Net(widths, roads), cheapest_of(widths, roads)
            for routes in books[::3]:
                book = book_from(net, routes)
                kept = {(route[0], route[-1]): route for route in routes}
                kept.update({(place, place): (place,) for place in range(net.size)})
                for start, goal in net.pairs:
                    for place in admissible_of(cheapest, kept, start, goal):
                        if place != kept[(start, goal)][1]:
                            self.check(book, start, goal, (start,) + kept[(place, goal)], books)

    def check(self, book, start, goal, candidate, books):
        """The turned book is the leftmost one that keeps the candidate and the routes that lack one of the two."""
        turned = turn(book, start, goal, candidate[1])
        both = [start in route and goal in route for route in book.routes]
        others = [route for route, has in zip(book.routes, both) if not has]
        keeping = [routes for routes in books if candidate in routes and set(others) <= set(routes)]
        self.same(left_book(keeping), turned.routes)
        self.same(both, [route not in turned for route in book.routes])


if __name__ == "__main__":
    unittest.main()
