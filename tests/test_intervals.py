"""Points 35 to 40: intervals of books."""

import random
import unittest

from meetonce.errors import BadRoute, Conflict, NotCheapest, NotOrdered, WrongNet
from meetonce.filling import fill
from meetonce.intervals import Interval, between, clamp, common, follows, interval_of, possible
from meetonce.nets import Net, with_road, without_road
from meetonce.order import join_of, leftmost, meet_of, rightmost
from tests.samples import (DIAMOND, LADDER, GuideCase, admissible_of, all_books, book_from, books_of, cheapest_of,
                           conflict_of, keeps, left_of, pairs_of, parts_of, routes_of, small_nets, some_parts)

FAR = 10 ** 59


def other_books(net):
    """Books of nets that differ from LADDER."""
    return [fill(other) for other in (with_road(net, 0, 1, 7), without_road(net, 3, 5), Net([2, 3, 2, 1], []),
                                      Net([1, 3, 2, 1, 1], list(net.roads)))]


def some_interval(rng, net, books):
    """An interval of the net with its lower and its upper book, given as routes."""
    one, two = rng.choice(books), rng.choice(books)
    interval = Interval(meet_of([book_from(net, one), book_from(net, two)]), book_from(net, two))
    return interval, interval.lower.routes, interval.upper.routes


def within(lower, books, upper):
    """Those of the books that lie between the two."""
    return [routes for routes in books if left_of(lower, routes) and left_of(routes, upper)]


class IntervalTest(GuideCase):
    """Point 35."""

    def test_attributes(self):
        left, right = all_books(*DIAMOND)
        interval = Interval(left, right)
        self.assertTrue(interval.lower == left)
        self.assertTrue(interval.upper == right)
        self.assertTrue(Interval(upper=right, lower=right).lower == right)

    def test_books_of_other_nets(self):
        net = Net(*LADDER)
        for other in other_books(net):
            self.refused(WrongNet, {"index": 1}, Interval, fill(net), other)
            self.refused(WrongNet, {"index": 1}, Interval, other, fill(net))
        again = fill(Net(LADDER[0], reversed(LADDER[1])))
        self.same(True, Interval(fill(net), again).single())

    def test_books_that_are_not_in_order(self):
        left, right = all_books(*DIAMOND)
        self.refused(NotOrdered, {"start": 0, "goal": 3}, Interval, right, left)
        net = Net(*LADDER)
        lower = fill(net, [(0, 2, 5, 6), (0, 1, 4)])
        self.refused(NotOrdered, {"start": 2, "goal": 6}, Interval, lower, fill(net, [(0, 2, 4, 6)]))
        self.refused(NotOrdered, {"start": 0, "goal": 5}, Interval, rightmost(net), leftmost(net, [(0, 2, 4)]))
        self.refused(NotOrdered, {"start": 0, "goal": 4}, Interval, rightmost(net), leftmost(net))
        self.refused(NotOrdered, {"start": 0, "goal": 6}, Interval, fill(net, choices=[0, 1, 0, 1]),
                     fill(net, choices=[0, 1, 0, 0]))

    def test_books_in_an_interval(self):
        net = Net(*LADDER)
        interval = Interval(fill(net, [(0, 2, 4)]), rightmost(net, [(0, 2, 4)]))
        for routes in books_of(*LADDER):
            self.same((0, 2, 4) in routes, book_from(net, routes) in interval)
        for other in other_books(net):
            self.same(False, other in interval)
        self.same(True, fill(Net(LADDER[0], reversed(LADDER[1])), [(0, 2, 4)]) in interval)

    def test_equal_intervals(self):
        net = Net(*LADDER)
        lower, upper, wish = leftmost(net), rightmost(net), [(0, 2, 4)]
        self.same(True, Interval(lower, upper) == Interval(leftmost(net), rightmost(net)))
        self.same(False, Interval(lower, upper) == Interval(lower, rightmost(net, [(0, 1, 4)])))
        self.same(False, Interval(lower, upper) == Interval(leftmost(net, wish), upper))
        self.same(True, Interval(lower, upper) != Interval(lower, lower))
        closed = without_road(net, 1, 4)
        self.same(False, interval_of(closed) == interval_of(net))

    def test_sure_routes(self):
        left, right = all_books(*DIAMOND)
        self.same(((0, 1), (0, 2), (1, 3), (2, 3)), Interval(left, right).sure_routes())
        self.same(right.routes, Interval(right, right).sure_routes())
        self.same((), interval_of(Net([2], [])).sure_routes())

    def test_single(self):
        left, right = all_books(*DIAMOND)
        self.same([False, True, True], [Interval(left, right).single(), Interval(left, left).single(),
                                        Interval(right, fill(right.net, [(0, 2, 3)])).single()])

    def test_against_slow_answers(self):
        rng = random.Random(35)
        for widths, roads, books in small_nets(3501, 12, most=60):
            net = Net(widths, roads)
            made = [book_from(net, routes) for routes in books]
            for _ in range(5):
                interval, lower, upper = some_interval(rng, net, books)
                inside = within(lower, books, upper)
                self.same(inside, [book.routes for book in made if book in interval])
                self.same(tuple(route for route in lower if all(route in routes for routes in inside)),
                          interval.sure_routes())
                self.same(len(inside) == 1, interval.single())

    def test_the_first_pair_that_is_not_in_order(self):
        rng = random.Random(3502)
        for widths, roads, books in small_nets(3503, 12, most=60):
            net, pairs = Net(widths, roads), pairs_of(widths, roads)
            for _ in range(8):
                one, two = rng.choice(books), rng.choice(books)
                wrong = [pair for pair, route, other in zip(pairs, one, two) if not left_of([route], [other])]
                if wrong:
                    self.refused(NotOrdered, {"start": wrong[0][0], "goal": wrong[0][1]}, Interval,
                                 book_from(net, one), book_from(net, two))


class IntervalOfTest(GuideCase):
    """Point 36."""

    def test_without_wishes(self):
        left, right = all_books(*DIAMOND)
        for wishes in ((), [], [[0]]):
            self.assertTrue(interval_of(left.net, wishes) == Interval(left, right))
        self.assertTrue(interval_of(left.net) == Interval(left, right))

    def test_wishes_are_checked(self):
        net = Net(*LADDER)
        self.refused(BadRoute, {"index": 1, "at": 1}, interval_of, net, [[0, 1], (0, 4)])
        self.refused(NotCheapest, {"index": 0, "cheaper": (0, 1, 4)}, interval_of, with_road(net, 0, 2, 2),
                     [[0, 2, 4]])
        self.refused(Conflict, {"first": 0, "second": 1, "split": 0, "meeting": 4}, interval_of, net,
                     [[0, 1, 4], [0, 2, 4]])

    def test_it_has_just_the_books_that_keep_the_wishes(self):
        rng = random.Random(36)
        for widths, roads, books in small_nets(3601, 20) + [(*LADDER, books_of(*LADDER))]:
            net = Net(widths, roads)
            for _ in range(3):
                wishes = some_parts(rng, rng.choice(books))
                interval = interval_of(net, wishes)
                keeping = [routes for routes in books if all(keeps(routes, wish) for wish in wishes)]
                self.same(keeping, [routes for routes in books if book_from(net, routes) in interval])
                self.same(tuple(route for route in keeping[0] if all(route in routes for routes in keeping)),
                          interval.sure_routes())


def between_of(widths, roads, ends, choices):
    """What `between` must keep, by the words of point 37; `ends` are the routes of the two books."""
    cheapest, pairs = cheapest_of(widths, roads), pairs_of(widths, roads)
    kept = {(place, place): (place,) for place in range(sum(widths))}
    left = list(choices)
    for at, (start, goal) in enumerate(pairs):
        places = [place for place in admissible_of(cheapest, kept, start, goal)
                  if ends[0][at][1] <= place <= ends[1][at][1]]
        chosen = places[0]
        if len(places) > 1 and left:
            chosen = places[left.pop(0) % len(places)]
        kept[(start, goal)] = (start,) + kept[(chosen, goal)]
    return tuple(kept[pair] for pair in pairs)


class BetweenTest(GuideCase):
    """Point 37."""

    def test_the_leftmost_places_without_choices(self):
        net = Net(*LADDER)
        interval = interval_of(net, [(0, 2, 5)])
        self.assertTrue(between(interval) == interval.lower)
        self.assertTrue(between(interval, choices=[]) == interval.lower)
        self.assertTrue(between(Interval(interval.upper, interval.upper), choices=[0, 1, 1]) == interval.upper)

    def test_choices(self):
        net = Net(*LADDER)
        whole = interval_of(net)
        # The open pairs are (0, 4), (0, 5) and (2, 6), then (0, 6).
        for choices in ([1], (0, 1), [7, 0, 3], [1, 0, 1, 5], [0, 1, 1, 10 ** 6 + 1, 0, 1], [FAR, FAR + 1]):
            self.assertTrue(between(whole, choices=choices) == fill(net, choices=choices))
        right = Interval(fill(net, [(0, 2, 4), (0, 3, 5)]), rightmost(net))
        # With 2 before 4 and 3 before 5 only the pair (2, 6) is left, and what follows from it.
        self.same([(0, 2, 4), (0, 3, 5), (2, 5, 6)],
                  [between(right, choices=[1]).route(*pair) for pair in ((0, 4), (0, 5), (2, 6))])

    def test_a_place_that_is_not_allowed_is_not_counted(self):
        net = Net([1, 3, 1], [(0, 1, 0), (0, 2, 0), (0, 3, 0), (1, 4, 0), (2, 4, 0), (3, 4, 0)])
        books = [fill(net, [(0, place, 4)]) for place in (1, 2, 3)]
        self.same([2, 3, 2, 3], [between(Interval(books[1], books[2]), choices=[choice]).next_place(0, 4)
                                 for choice in range(4)])
        self.same([1, 2, 1, 2], [between(Interval(books[0], books[1]), choices=[choice]).next_place(0, 4)
                                 for choice in range(4)])
        self.same([2, 2], [between(Interval(books[1], books[1]), choices=[choice]).next_place(0, 4)
                           for choice in range(2)])

    def test_choices_are_passed_by_name(self):
        with self.assertRaises(TypeError):
            between(interval_of(Net(*DIAMOND)), [1])

    def test_against_slow_answers(self):
        rng = random.Random(37)
        for widths, roads, books in small_nets(3701, 20) + [(*LADDER, books_of(*LADDER))]:
            net = Net(widths, roads)
            for _ in range(5):
                interval, lower, upper = some_interval(rng, net, books)
                choices = [rng.randrange(10 ** 6) for _ in range(rng.choice([0, 1, 2, 40]))]
                book = between(interval, choices=choices)
                self.same(between_of(widths, roads, (lower, upper), choices), book.routes)
                self.assertTrue(book in interval)


class ClampTest(GuideCase):
    """Point 38."""

    def test_books_in_left_and_right_of_the_interval(self):
        left, right = all_books(*DIAMOND)
        for book, lower, upper, expected in ((left, left, right, left), (right, left, right, right),
                                             (left, right, right, right), (right, left, left, left)):
            self.assertTrue(clamp(Interval(lower, upper), book) == expected)

    def test_a_book_beside_the_interval(self):
        net = Net(*LADDER)
        interval = interval_of(net, [(0, 2, 4), (0, 2, 5)])
        clamped = clamp(interval, fill(net, [(0, 1, 4), (0, 3, 5, 6), (2, 5, 6)]))
        self.same([(0, 2, 4), (0, 2, 5), (2, 5, 6), (0, 2, 5, 6)],
                  [clamped.route(*pair) for pair in ((0, 4), (0, 5), (2, 6), (0, 6))])
        self.assertTrue(clamped in interval)
        clamped = clamp(interval, fill(net, [(0, 1, 4, 6), (0, 3, 5), (2, 4, 6)]))
        self.same([(0, 2, 4), (0, 2, 5), (2, 4, 6), (0, 2, 4, 6)],
                  [clamped.route(*pair) for pair in ((0, 4), (0, 5), (2, 6), (0, 6))])
        self.assertTrue(clamped in interval)

    def test_other_nets(self):
        net = Net(*LADDER)
        for other in other_books(net):
            self.refused(WrongNet, {"index": 1}, clamp, interval_of(net), other)
            self.refused(WrongNet, {"index": 1}, clamp, interval_of(other.net), fill(net))

    def test_against_slow_answers(self):
        rng = random.Random(38)
        for widths, roads, books in small_nets(3801, 25) + [(*LADDER, books_of(*LADDER))]:
            net = Net(widths, roads)
            for _ in range(5):
                interval, lower, upper = some_interval(rng, net, books)
                book = book_from(net, rng.choice(books))
                clamped = clamp(interval, book)
                self.assertTrue(clamped in interval)
                self.assertTrue(clamped == join_of([interval.lower, meet_of([book, interval.upper])]))
                self.check_kept_routes(dict(zip(net.pairs, zip(lower, upper))), book, clamped)

    def check_kept_routes(self, ends, book, clamped):
        """Just the routes are kept of which each part lies between the two books."""
        for route in book.routes:
            parts = [part for part in parts_of(route) if len(part) > 1]
            inside = all(left_of([ends[(part[0], part[-1])][0]], [part])
                         and left_of([part], [ends[(part[0], part[-1])][1]]) for part in parts)
            self.same(inside, route in clamped)

    def test_the_routes_that_conflict_with_no_wish_stay(self):
        rng = random.Random(3802)
        for widths, roads, books in small_nets(3803, 25) + [(*LADDER, books_of(*LADDER))]:
            net = Net(widths, roads)
            for _ in range(4):
                wishes = some_parts(rng, rng.choice(books))
                book = book_from(net, rng.choice(books))
                clamped = clamp(interval_of(net, wishes), book)
                self.same([all(conflict_of(tuple(wish), route) is None for wish in wishes) for route in book.routes],
                          [route in clamped for route in book.routes])


class CommonTest(GuideCase):
    """Point 39."""

    def test_intervals_with_common_books(self):
        net = Net(*LADDER)
        whole = interval_of(net)
        part = interval_of(net, [(0, 2, 4)])
        for first, second in ((whole, part), (part, whole), (part, part)):
            self.assertTrue(common(first, second) == part)
        self.assertTrue(common(part, interval_of(net, [(2, 5, 6)])) == interval_of(net, [(0, 2, 4), (2, 5, 6)]))

    def test_intervals_without_a_common_book(self):
        left, right = all_books(*DIAMOND)
        lower, upper = Interval(left, left), Interval(right, right)
        self.refused(NotOrdered, {"start": 0, "goal": 3}, common, lower, upper)
        self.refused(NotOrdered, {"start": 0, "goal": 3}, common, upper, lower)
        net = Net(*LADDER)
        self.refused(NotOrdered, {"start": 0, "goal": 4}, common, interval_of(net, [(0, 1, 4)]),
                     interval_of(net, [(0, 2, 4)]))
        self.refused(NotOrdered, {"start": 2, "goal": 6}, common, interval_of(net, [(0, 2, 4, 6)]),
                     interval_of(net, [(2, 5, 6)]))

    def test_other_nets(self):
        net = Net(*LADDER)
        for other in other_books(net):
            self.refused(WrongNet, {"index": 1}, common, interval_of(net), interval_of(other.net))
            self.refused(WrongNet, {"index": 1}, common, interval_of(other.net), interval_of(net))

    def test_against_slow_answers(self):
        rng = random.Random(39)
        for widths, roads, books in small_nets(3901, 20, most=60) + [(*LADDER, books_of(*LADDER))]:
            net = Net(widths, roads)
            for _ in range(5):
                first, *ends = some_interval(rng, net, books)
                second, *other_ends = some_interval(rng, net, books)
                inside = within(other_ends[0], within(ends[0], books, ends[1]), other_ends[1])
                if inside:
                    both = common(first, second)
                    self.same(inside, [routes for routes in books if book_from(net, routes) in both])
                else:
                    self.check_refusal(net, first, second)

    def check_refusal(self, net, first, second):
        """The pair that is told is that of the join of the lower and the meet of the upper books."""
        lower, upper = join_of([first.lower, second.lower]), meet_of([first.upper, second.upper])
        wrong = [pair for pair, route, other in zip(net.pairs, lower.routes, upper.routes)
                 if not left_of([route], [other])]
        self.refused(NotOrdered, {"start": wrong[0][0], "goal": wrong[0][1]}, common, first, second)

    def test_two_lists_of_wishes(self):
        rng = random.Random(3902)
        for widths, roads, books in small_nets(3903, 25) + [(*LADDER, books_of(*LADDER))]:
            net = Net(widths, roads)
            for _ in range(4):
                one, two = some_parts(rng, rng.choice(books), 2), some_parts(rng, rng.choice(books), 2)
                first, second = interval_of(net, one), interval_of(net, two)
                if all(conflict_of(tuple(wish), tuple(other)) is None for wish in one for other in two):
                    self.assertTrue(common(first, second) == interval_of(net, one + two))
                else:
                    self.check_refusal(net, first, second)


class PossibleTest(GuideCase):
    """Point 40."""

    def test_possible(self):
        net = Net(*LADDER)
        wishes = [(0, 2, 4), [2, 5, 6]]
        for route, expected in (((0, 2, 5, 6), True), ([0, 2, 4, 6], False), ((0, 1, 4), False), ((0, 3, 5, 6), True),
                                ((3,), True), ([0, 1], True), ((2, 4), True)):
            self.same(expected, possible(net, wishes, route))
            self.same(True, possible(net, (), route))
        dear = with_road(net, 2, 5, 2)
        self.same([False, False, True], [possible(dear, [], (2, 5, 6)), possible(dear, [(2, 4, 6)], (0, 2, 5)),
                                         possible(dear, [], (2, 5))])

    def test_follows(self):
        net = Net(*LADDER)
        wishes = [(0, 2, 5, 6), [0, 2, 4]]
        for route, expected in (((0, 2, 5, 6), True), ([2, 5, 6], True), ((0, 2, 4), True), ((0, 1, 4), False),
                                ((0, 3, 5, 6), False), ((3,), True), ([0, 1], True), ((2, 4, 6), False)):
            self.same(expected, follows(net, wishes, route))
        self.same([False, True, True, False], [follows(net, [], (0, 2, 4)), follows(net, [], (1, 4, 6)),
                                               follows(net, [], [6]), follows(net, [(2, 4, 6)], (0, 2, 4))])
        dear = with_road(net, 2, 5, 2)
        self.same([False, True], [follows(dear, [], (2, 5, 6)), follows(dear, [], (2, 4, 6))])

    def test_lists_that_are_no_routes(self):
        net = Net(*LADDER)
        for route, at in (([], 0), ([7], 0), ([-1, 0], 0), ((0, 4), 1), ((0, 1, 5), 2), ([0, 3, FAR], 2), ([4, 1], 1)):
            for call in (possible, follows):
                self.refused(BadRoute, {"index": 0, "at": at}, call, net, [(0, 1, 4), (0, 1)], route)
                self.refused(BadRoute, {"index": 0, "at": at}, call, net, (), route)

    def test_the_wishes_are_checked_first(self):
        net = Net(*LADDER)
        dear = with_road(net, 0, 2, 2)
        for call in (possible, follows):
            self.refused(BadRoute, {"index": 1, "at": 2}, call, net, [(0, 1), (0, 1, 5)], [0, 4])
            self.refused(NotCheapest, {"index": 0, "cheaper": (0, 1, 4)}, call, dear, [(0, 2, 4)], [])
            self.refused(Conflict, {"first": 0, "second": 1, "split": 0, "meeting": 4}, call, net,
                         [(0, 1, 4), (0, 2, 4)], [9])

    def test_against_slow_answers(self):
        rng = random.Random(40)
        for widths, roads, books in small_nets(4001, 12, most=60) + [(*LADDER, books_of(*LADDER))]:
            net = Net(widths, roads)
            routes = [route for some in routes_of(widths, roads).values() for route in some]
            for _ in range(2):
                wishes = some_parts(rng, rng.choice(books))
                keeping = [kept for kept in books if all(keeps(kept, wish) for wish in wishes)]
                for route in rng.sample(routes, min(40, len(routes))):
                    kept_by = [keeps(kept, route) for kept in keeping]
                    self.same((any(kept_by), all(kept_by)),
                              (possible(net, wishes, route), follows(net, wishes, list(route))))


if __name__ == "__main__":
    unittest.main()
