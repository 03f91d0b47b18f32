"""Points 29 and 30: filling, and the choices of a book."""

import random
import unittest

from meetonce.errors import BadRoute, Conflict, NotCheapest, NotKept
from meetonce.filling import choices_of, fill
from meetonce.nets import Net, with_road
from tests.samples import (DIAMOND, LADDER, GuideCase, admissible_of, all_books, book_from, books_of, cheapest_of,
                           keeps, pairs_of, random_nets, small_nets, some_parts)

FAR = 10 ** 59


def fill_of(widths, roads, wishes, choices):
    """What `fill` must keep, by the words of point 29, and the choices that lead to it."""
    cheapest = cheapest_of(widths, roads)
    kept = {(place, place): (place,) for place in range(sum(widths))}
    left, used = list(choices), []
    for start, goal in pairs_of(widths, roads):
        through = [tuple(wish) for wish in wishes if start in wish and goal in wish]
        if through:
            wish = through[0]
            kept[(start, goal)] = wish[wish.index(start):wish.index(goal) + 1]
        else:
            places = admissible_of(cheapest, kept, start, goal)
            at = 0
            if len(places) > 1:
                at = left.pop(0) % len(places) if left else 0
                used.append(at)
            kept[(start, goal)] = (start,) + kept[(places[at], goal)]
    return tuple(kept[pair] for pair in pairs_of(widths, roads)), used


class FillTest(GuideCase):
    """Point 29."""

    def test_no_wishes_and_no_choices(self):
        net = Net(*DIAMOND)
        book = fill(net)
        self.same(((0, 1), (0, 2), (1, 3), (2, 3), (0, 1, 3)), book.routes)
        self.assertTrue(book.net == net)
        self.assertTrue(fill(net, []) == book)
        self.assertTrue(fill(net, (), choices=[]) == book)
        self.same((0, 1, 4, 6), fill(Net(*LADDER)).route(0, 6))

    def test_a_wish(self):
        net = Net(*DIAMOND)
        self.same((0, 2, 3), fill(net, [(0, 2, 3)]).route(0, 3))
        self.same((0, 2, 3), fill(net, [[0, 2, 3]], choices=[0]).route(0, 3))
        self.same((0, 3, 5, 6), fill(Net(*LADDER), ([0, 3, 5, 6],)).route(0, 6))

    def test_wishes_that_say_nothing_or_the_same_again(self):
        net = Net(*LADDER)
        self.assertTrue(fill(net, [[0], (6,), [4], (2, 5)]) == fill(net))
        once = fill(net, [(0, 2, 5, 6)])
        self.same((0, 2, 5, 6), once.route(0, 6))
        self.assertTrue(fill(net, [(0, 2, 5, 6)] * 3) == once)
        self.assertTrue(fill(net, [(2, 5), (0, 2, 5, 6), (2, 5, 6)]) == once)

    def test_choices_are_taken_modulo_the_number_of_places(self):
        net = Net(*DIAMOND)
        for choice in (0, 2, 4, 10 ** 6, FAR * 2):
            self.same((0, 1, 3), fill(net, choices=[choice]).route(0, 3))
        for choice in (1, 3, 5, 10 ** 6 - 1, FAR * 2 + 1):
            self.same((0, 2, 3), fill(net, choices=(choice,)).route(0, 3))
        three = Net([1, 3, 1], [(0, 1, 0), (0, 2, 0), (0, 3, 0), (1, 4, 0), (2, 4, 0), (3, 4, 0)])
        self.same([1, 2, 3, 1, 2, 3, 1], [fill(three, choices=[choice]).next_place(0, 4) for choice in range(7)])

    def test_choices_left_over_are_ignored(self):
        net = Net(*DIAMOND)
        self.same((0, 2, 3), fill(net, choices=[1, 0, 0]).route(0, 3))
        self.same((0, 1, 3), fill(net, choices=[0] + [1] * 300).route(0, 3))
        self.same((0, 1), fill(Net([1, 1], [(0, 1, 7)]), choices=[3, 4]).route(0, 1))
        self.same((), fill(Net([3], []), choices=[1]).routes)

    def test_a_pair_with_one_admissible_place_uses_no_entry(self):
        # In filling order: (0, 4) with 1 and 2, (0, 5) with 2 and 3, (2, 6) with 4 and 5.
        net = Net(*LADDER)
        book = fill(net, choices=[0, 1, 1])
        self.same([(0, 1, 4), (0, 3, 5), (2, 5, 6)], [book.route(0, 4), book.route(0, 5), book.route(2, 6)])
        self.same([1, 3], book.admissible(0, 6))
        self.same((0, 3, 5, 6), fill(net, choices=[0, 1, 1, 1]).route(0, 6))
        self.same((0, 1, 4, 6), fill(net, choices=[0, 1, 1, 2]).route(0, 6))
        # With 2 before both 4 and 5, and 5 before 6 from 2 on, the place 2 alone is its own image from 0 to 6.
        alone = fill(net, choices=[1, 0, 1, 0])
        self.same(([2], (0, 2, 5, 6)), (alone.admissible(0, 6), alone.route(0, 6)))

    def test_a_pair_with_a_wish_through_it_uses_no_entry(self):
        net = Net(*LADDER)
        book = fill(net, [(0, 1, 4)], choices=[1, 1])
        self.same([(0, 1, 4), (0, 3, 5), (2, 5, 6)], [book.route(0, 4), book.route(0, 5), book.route(2, 6)])
        book = fill(net, [(0, 3, 5, 6)], choices=[1, 0])
        self.same([(0, 2, 4), (0, 3, 5), (2, 4, 6)], [book.route(0, 4), book.route(0, 5), book.route(2, 6)])

    def test_the_leftmost_place_when_all_choices_are_used(self):
        net = Net(*LADDER)
        self.assertTrue(fill(net, choices=[1]) == fill(net, choices=[1, 0, 0, 0, 0]))
        self.assertFalse(fill(net, choices=[1]) == fill(net, choices=[1, 1]))

    def test_wishes_are_checked(self):
        net = Net(*LADDER)
        dear = with_road(net, 0, 2, 2)
        self.refused(BadRoute, {"index": 1, "at": 1}, fill, net, [[0, 1], (0, 4)])
        self.refused(BadRoute, {"index": 0, "at": 0}, fill, net, [[]])
        self.refused(NotCheapest, {"index": 0, "cheaper": (0, 1, 4)}, fill, dear, [[0, 2, 4]])
        self.refused(Conflict, {"first": 0, "second": 1, "split": 0, "meeting": 4}, fill, net,
                     [[0, 1, 4], [0, 2, 4]])

    def test_choices_are_passed_by_name(self):
        with self.assertRaises(TypeError):
            fill(Net(*DIAMOND), (), [1])

    def test_against_slow_answers(self):
        rng = random.Random(29)
        for widths, roads in random_nets(2901, 120, most_rows=6) + [LADDER] * 10:
            net = Net(widths, roads)
            for _ in range(4):
                wishes = some_parts(rng, fill_of(widths, roads, [], [rng.randrange(9) for _ in range(60)])[0])
                choices = [rng.randrange(10 ** 6) for _ in range(rng.choice([0, 1, 3, 80]))]
                book = fill(net, wishes, choices=choices)
                self.same(fill_of(widths, roads, wishes, choices)[0], book.routes)
                self.assertTrue(all(keeps(book.routes, wish) for wish in wishes))


class ChoicesOfTest(GuideCase):
    """Point 30."""

    def test_without_wishes(self):
        net = Net(*DIAMOND)
        left, right = all_books(*DIAMOND)
        self.same([0], choices_of(left))
        self.same([1], choices_of(right, []))
        self.same([], choices_of(fill(Net([1, 1], [(0, 1, 1)]))))
        self.assertTrue(fill(net, choices=choices_of(right)) == right)

    def test_with_wishes(self):
        book = fill(Net(*LADDER), choices=[0, 1, 1, 1])
        self.same([0, 1, 1, 1], choices_of(book))
        self.same([1, 1, 1], choices_of(book, [[0, 1, 4]]))
        self.same([0, 1], choices_of(book, [(0, 3, 5, 6)]))
        self.same([0, 1, 1, 1], choices_of(book, [(0, 3), [5]]))
        self.same([1], choices_of(book, ((0, 1, 4), (0, 3, 5, 6), (0, 3, 5))))

    def test_a_wish_that_the_book_does_not_keep(self):
        book = fill(Net(*LADDER), choices=[0, 1, 1, 1])
        self.refused(NotKept, {"index": 0}, choices_of, book, [[0, 2, 4]])
        self.refused(NotKept, {"index": 1}, choices_of, book, [(2, 5, 6), (0, 2, 5), (0, 2, 4), (0, 1)])
        self.refused(NotKept, {"index": 3}, choices_of, book, [[5], (0, 1), (0, 3, 5, 6), (0, 2, 4)])

    def test_the_wishes_are_checked_before_it(self):
        book = fill(Net(*LADDER), choices=[0, 1, 1, 1])
        self.refused(BadRoute, {"index": 1, "at": 2}, choices_of, book, [(0, 2, 4), (0, 2, 6)])
        self.refused(Conflict, {"first": 0, "second": 1, "split": 0, "meeting": 4}, choices_of, book,
                     [(0, 2, 4), (0, 1, 4)])
        dear = fill(with_road(Net(*LADDER), 0, 2, 2))
        self.refused(NotCheapest, {"index": 1, "cheaper": (0, 3, 5)}, choices_of, dear, [(2, 5, 6), (0, 2, 5)])
        self.refused(NotKept, {"index": 0}, choices_of, dear, [(2, 5, 6), (0, 3, 5)])

    def test_all_books_come_back_from_their_choices(self):
        rng = random.Random(30)
        for widths, roads, books in small_nets(3001, 25) + [(*LADDER, books_of(*LADDER))]:
            net = Net(widths, roads)
            seen = set()
            for routes in books:
                book = book_from(net, routes)
                choices = choices_of(book)
                self.same(fill_of(widths, roads, [], choices), (routes, choices))
                self.assertTrue(fill(net, choices=choices) == book)
                seen.add(tuple(choices))
                wishes = some_parts(rng, routes)
                choices = choices_of(book, wishes)
                self.same(fill_of(widths, roads, wishes, choices), (routes, choices))
                self.assertTrue(fill(net, wishes, choices=choices) == book)
            self.assertEqual(len(books), len(seen))


if __name__ == "__main__":
    unittest.main()
