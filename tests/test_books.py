"""Points 23 to 28: books."""

import random
import unittest

from meetonce.books import Book, climb, images
from meetonce.errors import NoRoute, NotABook, NotAdmissible
from meetonce.nets import Net
from tests.samples import (DIAMOND, LADDER, GuideCase, admissible_of, cheapest_of, conflict_of, parts_of, pairs_of,
                           random_net, random_routes_of_a_book, random_nets, rows_of, routes_of, table_from)

FAR = 10 ** 59
NO = None


def ladder_table(to_4, to_5, from_2, through):
    """The table of a book of LADDER: the second places of the four pairs that leave a choice."""
    return [[NO, 1, 2, 3, to_4, to_5, through],
            [NO, NO, NO, NO, 4, NO, 4],
            [NO, NO, NO, NO, 4, 5, from_2],
            [NO, NO, NO, NO, NO, 5, 5],
            [NO, NO, NO, NO, NO, NO, 6],
            [NO, NO, NO, NO, NO, NO, 6],
            [NO] * 7]


def book_of(widths, roads, kept):
    """The book that keeps these routes."""
    return Book(Net(widths, roads), table_from(sum(widths), kept))


def changed(table, start, goal, entry):
    """A copy of the table with another entry."""
    copy = [list(row) for row in table]
    copy[start][goal] = entry
    return copy


class KeptRoutesTest(GuideCase):
    """Points 23, 25 and 26: what a book keeps."""

    def setUp(self):
        self.net = Net(*DIAMOND)
        self.table = [[NO, 1, 2, 2], [NO, NO, NO, 3], [NO, NO, NO, 3], [NO] * 4]
        self.book = Book(self.net, self.table)

    def test_routes_are_in_filling_order(self):
        self.same(((0, 1), (0, 2), (1, 3), (2, 3), (0, 2, 3)), self.book.routes)
        self.same([(0, 1), (0, 2), (1, 3), (2, 3), (0, 2, 3)], list(self.book))
        self.assertTrue(self.book.net == self.net)

    def test_another_ladder(self):
        book = Book(Net(*LADDER), ladder_table(1, 2, 4, 1))
        self.same(((0, 1), (0, 2), (0, 3), (1, 4), (2, 4), (2, 5), (3, 5), (4, 6), (5, 6),
                   (0, 1, 4), (0, 2, 5), (1, 4, 6), (2, 4, 6), (3, 5, 6), (0, 1, 4, 6)), book.routes)
        self.same((0, 1, 4, 6), book.route(0, 6))
        self.same((2, 4, 6), book.route(2, 6))
        self.same((1, 4), (book.next_place(0, 6), book.previous_place(0, 6)))
        self.same((2, 2), (book.next_place(0, 5), book.previous_place(0, 5)))
        self.same((4, 4), (book.next_place(2, 6), book.previous_place(2, 6)))

    def test_lists_and_tuples_make_a_table(self):
        rows = [tuple(row) for row in self.table]
        for table in (rows, tuple(rows), tuple(self.table)):
            self.assertTrue(Book(self.net, table) == self.book)

    def test_neighbours(self):
        self.same((0, 2), self.book.route(0, 2))
        self.same((2, 0), (self.book.next_place(0, 2), self.book.previous_place(0, 2)))

    def test_a_place_and_itself(self):
        for place in range(4):
            self.same((place,), self.book.route(place, place))
            self.same((place, place), (self.book.next_place(place, place), self.book.previous_place(place, place)))

    def test_no_route(self):
        ends = [(3, 0), (1, 2), (2, 1), (3, 1), (1, 0), (-1, -1), (4, 4), (-4, 3), (0, -1), (0, 4), (4, 0), (FAR, FAR),
                (0, FAR), (-FAR, 3), (-2, -1), (-4, -1)]
        for start, goal in ends:
            for call in (self.book.route, self.book.next_place, self.book.previous_place, self.book.admissible):
                self.refused(NoRoute, {"start": start, "goal": goal}, call, start, goal)

    def test_a_place_and_itself_are_no_pair(self):
        for place in range(4):
            self.refused(NoRoute, {"start": place, "goal": place}, self.book.admissible, place, place)

    def test_tables(self):
        self.same(self.table, self.book.next_table())
        self.same([[NO, 0, 0, 2], [NO, NO, NO, 1], [NO, NO, NO, 2], [NO] * 4], self.book.previous_table())
        table = ladder_table(2, 3, 5, 3)
        self.same(table, Book(Net(*LADDER), table).next_table())
        self.same([[NO, 0, 0, 0, 2, 3, 5], [NO, NO, NO, NO, 1, NO, 4], [NO, NO, NO, NO, 2, 2, 5],
                   [NO, NO, NO, NO, NO, 3, 5], [NO, NO, NO, NO, NO, NO, 4], [NO, NO, NO, NO, NO, NO, 5], [NO] * 7],
                  Book(Net(*LADDER), table).previous_table())

    def test_a_net_without_roads(self):
        book = Book(Net([2, 1], []), [[NO] * 3] * 3)
        self.same((), book.routes)
        self.same([], list(book))
        self.same([[NO] * 3] * 3, book.next_table())
        self.same([[NO] * 3] * 3, book.previous_table())
        self.assertIs(True, [1] in book)
        self.assertIs(False, [0, 2] in book)
        self.same((2,), book.route(2, 2))

    def test_routes_in_the_book(self):
        for route in self.book.routes + ((0,), (1,), (2,), (3,)):
            self.assertIs(True, route in self.book)
            self.assertIs(True, list(route) in self.book)

    def test_lists_that_are_not_in_the_book(self):
        for route in ([], [4], [-1], [-4], [FAR], [0, 1, 3], [0, 3], [3, 2, 0], [0, 0], [0, 2, 2, 3], [0, 2, 3, 4],
                      [-1, 0, 2, 3], [0, 2, 3, 3], [1, 2], [0, 1, 2, 3], [3, 3], [0, -2, 3], [4, 4], [0, 1, 0]):
            self.assertIs(False, route in self.book)
            self.assertIs(False, tuple(route) in self.book)

    def test_equal_books(self):
        other = Book(Net([1, 2, 1], list(reversed(DIAMOND[1]))), tuple(self.table))
        self.assertTrue(self.book == other)
        self.assertFalse(self.book != other)

    def test_unequal_books(self):
        widths, roads = DIAMOND
        others = [Book(self.net, changed(self.table, 0, 3, 1)),
                  Book(Net(widths, [(start, end, price + 1) for start, end, price in roads]), self.table),
                  Book(Net(widths, roads[1:]), changed(self.table, 0, 1, NO)),
                  Book(Net((1, 2, 2), roads), [row + [NO] for row in self.table] + [[NO] * 5])]
        for other in others:
            self.assertFalse(self.book == other)
            self.assertTrue(self.book != other)

    def test_books_of_different_nets_with_equal_routes(self):
        kept = ((0, 2), (1, 2))
        one, other = (Book(Net([2, 1], [(0, 2, 1), (1, 2, price)]), [[NO, NO, 2], [NO, NO, 2], [NO] * 3])
                      for price in (1, 2))
        self.same((kept, kept), (one.routes, other.routes))
        self.assertFalse(one == other)


class WrongTablesTest(GuideCase):
    """Point 25."""

    def wrong(self, start, goal, table, net=None):
        """The table must be refused at this entry, whether it is made of lists or of tuples."""
        used = Net(*LADDER) if net is None else net
        fields = {"start": start, "goal": goal}
        self.refused(NotABook, fields, Book, used, table)
        self.refused(NotABook, fields, Book, used, tuple(tuple(row) for row in table))

    def test_right_tables(self):
        for choices in ((1, 2, 4, 1), (1, 2, 5, 1), (2, 2, 4, 2), (2, 3, 5, 3), (1, 2, 5, 2), (1, 3, 5, 3),
                        (1, 3, 5, 1)):
            table = ladder_table(*choices)
            self.same(table, Book(Net(*LADDER), table).next_table())

    def test_entries_that_must_be_none(self):
        right = ladder_table(1, 2, 4, 1)
        for start, goal in ((0, 0), (1, 5), (3, 4), (6, 0), (6, 6), (2, 1), (5, 4), (4, 0)):
            for entry in (0, goal, start, 6, -1, FAR):
                self.wrong(start, goal, changed(right, start, goal, entry))

    def test_the_first_of_them_counts(self):
        right = ladder_table(1, 2, 4, 1)
        table = changed(changed(changed(right, 5, 4, 6), 3, 4, 0), 3, 0, 0)
        self.wrong(3, 0, table)
        self.wrong(0, 0, changed(table, 0, 0, 0))
        self.wrong(6, 6, changed(right, 6, 6, 6))

    def test_they_come_before_the_pairs(self):
        right = ladder_table(1, 2, 4, 1)
        self.wrong(6, 5, changed(changed(right, 0, 1, NO), 6, 5, 0))
        self.wrong(0, 0, changed(changed(right, 0, 1, 2), 0, 0, 0))

    def test_none_or_another_integer_at_a_pair(self):
        right = ladder_table(1, 2, 4, 1)
        for start, goal in Net(*LADDER).pairs:
            for entry in (NO, -1, -6, 7, FAR, start, 0):
                self.wrong(start, goal, changed(right, start, goal, entry))

    def test_a_place_that_is_no_next_place(self):
        right = ladder_table(1, 2, 4, 1)
        self.wrong(0, 6, changed(right, 0, 6, 4))
        self.wrong(0, 6, changed(right, 0, 6, 6))
        self.wrong(1, 6, changed(right, 1, 6, 5))
        self.wrong(0, 1, changed(right, 0, 1, 2))
        self.wrong(0, 4, changed(right, 0, 4, 4))

    def test_a_next_place_that_does_not_lead_to_the_goal(self):
        right = ladder_table(1, 2, 4, 1)
        self.wrong(0, 4, changed(right, 0, 4, 3))
        self.wrong(0, 5, changed(right, 0, 5, 1))

    def test_a_next_place_that_is_not_cheap(self):
        net = Net([1, 2, 1], [(0, 1, 5), (0, 2, 5), (1, 3, 4), (2, 3, 5)])
        table = [[NO, 1, 2, 1], [NO, NO, NO, 3], [NO, NO, NO, 3], [NO] * 4]
        self.same((0, 1, 3), Book(net, table).route(0, 3))
        self.wrong(0, 3, changed(table, 0, 3, 2), net)

    def test_a_cheap_place_that_is_not_admissible(self):
        for wrong in (2, 3):
            self.wrong(0, 6, ladder_table(1, 2, 4, wrong))
        for wrong in (1, 2):
            self.wrong(0, 6, ladder_table(2, 3, 5, wrong))
        self.wrong(0, 6, ladder_table(1, 2, 5, 3))
        self.wrong(0, 6, ladder_table(1, 3, 5, 2))

    def test_the_first_wrong_pair_in_filling_order_counts(self):
        table = ladder_table(3, NO, 6, 0)
        self.wrong(0, 4, table)
        self.wrong(0, 5, changed(table, 0, 4, 1))
        self.wrong(2, 6, changed(changed(table, 0, 4, 1), 0, 5, 2))
        self.wrong(0, 6, ladder_table(1, 2, 4, 0))
        self.wrong(5, 6, changed(table, 5, 6, NO))
        self.wrong(2, 4, changed(changed(table, 5, 6, NO), 2, 4, 5))

    def test_wrong_entries_in_any_net(self):
        rng = random.Random(25)
        told = {}
        for _ in range(150):
            widths, roads = random_net(rng)
            table = table_from(sum(widths), random_routes_of_a_book(rng, widths, roads))
            for _ in range(rng.randint(1, 3)):
                entry = rng.choice([NO] + list(range(sum(widths))))
                table[rng.randrange(len(table))][rng.randrange(len(table))] = entry
            wrong = self.first_wrong(widths, roads, table)
            told[wrong is None] = told.get(wrong is None, 0) + 1
            if wrong is None:
                self.same(table, Book(Net(widths, roads), table).next_table())
            else:
                self.wrong(wrong[0], wrong[1], table, Net(widths, roads))
        self.assertEqual(2, len(told))

    def first_wrong(self, widths, roads, table):
        """The first wrong entry by the words of point 25, or None."""
        pairs = pairs_of(widths, roads)
        size = sum(widths)
        for ends in [(start, goal) for start in range(size) for goal in range(size)]:
            if ends not in pairs and table[ends[0]][ends[1]] is not None:
                return ends
        cheapest = cheapest_of(widths, roads)
        kept = {(place, place): (place,) for place in range(size)}
        for start, goal in pairs:
            if table[start][goal] not in admissible_of(cheapest, kept, start, goal):
                return (start, goal)
            kept[(start, goal)] = (start,) + kept[(table[start][goal], goal)]
        return None


class AdmissibleTest(GuideCase):
    """Points 24, 26 and 28."""

    def test_all_places_are_admissible(self):
        book = Book(Net(*DIAMOND), [[NO, 1, 2, 1], [NO, NO, NO, 3], [NO, NO, NO, 3], [NO] * 4])
        self.same([1, 2], book.admissible(0, 3))
        self.same([1], book.admissible(0, 1))
        self.same([(1, 1), (2, 2)], images(book, 0, 3))
        self.same([(2, 2)], images(book, 0, 2))
        self.same([1], climb(book, 0, 3, 1))
        self.same([2], climb(book, 0, 3, 2))

    def test_a_climb_to_the_left(self):
        book = Book(Net(*LADDER), ladder_table(1, 2, 4, 1))
        self.same([1], book.admissible(0, 6))
        self.same([(1, 1), (2, 1), (3, 2)], images(book, 0, 6))
        self.same([[1], [2, 1], [3, 2, 1]], [climb(book, 0, 6, place) for place in (1, 2, 3)])

    def test_a_climb_to_the_right(self):
        book = Book(Net(*LADDER), ladder_table(2, 3, 5, 3))
        self.same([3], book.admissible(0, 6))
        self.same([(1, 2), (2, 3), (3, 3)], images(book, 0, 6))
        self.same([[1, 2, 3], [2, 3], [3]], [climb(book, 0, 6, place) for place in (1, 2, 3)])

    def test_two_of_three_places_are_admissible(self):
        book = Book(Net(*LADDER), ladder_table(1, 3, 5, 1))
        self.same([1, 3], book.admissible(0, 6))
        self.same([(1, 1), (2, 3), (3, 3)], images(book, 0, 6))
        self.same([[1], [2, 3], [3]], [climb(book, 0, 6, place) for place in (1, 2, 3)])

    def test_what_is_admissible_does_not_depend_on_the_pair_itself(self):
        one = Book(Net(*LADDER), ladder_table(1, 3, 5, 1))
        other = Book(Net(*LADDER), ladder_table(1, 3, 5, 3))
        self.same(one.admissible(0, 6), other.admissible(0, 6))
        self.same(images(one, 0, 6), images(other, 0, 6))

    def test_only_cheap_places_count(self):
        net = Net([1, 2, 1], [(0, 1, 5), (0, 2, 5), (1, 3, 4), (2, 3, 5)])
        book = Book(net, [[NO, 1, 2, 1], [NO, NO, NO, 3], [NO, NO, NO, 3], [NO] * 4])
        self.same([1], book.admissible(0, 3))
        self.same([(1, 1)], images(book, 0, 3))
        self.refused(NotAdmissible, {"place": 2}, climb, book, 0, 3, 2)

    def test_no_pair(self):
        book = Book(Net(*LADDER), ladder_table(1, 2, 4, 1))
        for start, goal in ((0, 0), (6, 6), (3, 4), (6, 0), (1, 2), (-1, 6), (-7, 6), (0, 7), (0, -1), (7, 7), (-1, -1),
                            (FAR, FAR), (0, FAR), (-FAR, 6)):
            self.refused(NoRoute, {"start": start, "goal": goal}, images, book, start, goal)
            for place in (1, start, 99, -1):
                self.refused(NoRoute, {"start": start, "goal": goal}, climb, book, start, goal, place)

    def test_a_climb_from_a_place_that_is_no_cheap_next_place(self):
        book = Book(Net(*LADDER), ladder_table(1, 2, 4, 1))
        for place in (0, 4, 5, 6, 7, -1, -6, FAR, -FAR):
            self.refused(NotAdmissible, {"place": place}, climb, book, 0, 6, place)
        self.refused(NotAdmissible, {"place": 3}, climb, book, 0, 4, 3)
        self.refused(NotAdmissible, {"place": 2}, climb, book, 0, 1, 2)


class AnyBookTest(GuideCase):
    """Points 23 to 28 in books that were put together by the words of the document alone."""

    def setUp(self):
        rng = random.Random(23)
        self.books = []
        for widths, roads in random_nets(24, 60) + random_nets(27, 30, most_rows=6, prices=(0,)) + [LADDER] * 3:
            self.books.append((widths, roads, random_routes_of_a_book(rng, widths, roads)))

    def test_what_is_kept(self):
        for widths, roads, kept in self.books:
            book = book_of(widths, roads, kept)
            self.same(tuple(kept[ends] for ends in pairs_of(widths, roads)), book.routes)
            for (start, goal), route in kept.items():
                self.same(route, book.route(start, goal))
                self.same(route[1 % len(route)], book.next_place(start, goal))
                self.same(route[-2 % len(route)], book.previous_place(start, goal))
            self.same(table_from(sum(widths), kept), book.next_table())
            self.same(table_from(sum(widths), kept, -2), book.previous_table())

    def test_every_part_of_a_kept_route_is_kept_and_nothing_else(self):
        for widths, roads, kept in self.books:
            book = book_of(widths, roads, kept)
            for route in book:
                self.assertTrue(all(part in book for part in parts_of(route)))
            for ends, routes in routes_of(widths, roads).items():
                self.assertEqual([kept[ends]], [route for route in routes if route in book])

    def test_no_two_kept_routes_conflict(self):
        for widths, roads, kept in self.books[:30]:
            routes = book_of(widths, roads, kept).routes
            self.assertEqual([], [pair for pair in ((a, b) for a in routes for b in routes) if conflict_of(*pair)])

    def test_admissible_places(self):
        for widths, roads, kept in self.books:
            book = book_of(widths, roads, kept)
            cheapest = cheapest_of(widths, roads)
            for start, goal in pairs_of(widths, roads):
                self.same(admissible_of(cheapest, kept, start, goal), book.admissible(start, goal))

    def test_images_and_climbs(self):
        steps = 0
        for widths, roads, kept in self.books:
            book = book_of(widths, roads, kept)
            cheapest = cheapest_of(widths, roads)
            for start, goal in pairs_of(widths, roads):
                expected = {}
                for place in sorted({route[1] for route in cheapest[(start, goal)]}):
                    candidate = (start,) + kept[(place, goal)]
                    expected[place] = goal if place == goal else kept[(start, candidate[-2])][1]
                self.same(list(expected.items()), images(book, start, goal))
                self.assertEqual(book.admissible(start, goal), [e for e, image in expected.items() if e == image])
                self.assertEqual(sorted(expected.values()), list(expected.values()))
                for place in expected:
                    walked = climb(book, start, goal, place)
                    self.same(self.climbed(expected, place), walked)
                    self.assertIn(walked, (sorted(walked), sorted(walked, reverse=True)))
                    steps = max(steps, len(walked))
        self.assertGreater(steps, 2)

    def climbed(self, image_of, place):
        """The list from the place on, by point 28."""
        steps = [place]
        while image_of[steps[-1]] != steps[-1]:
            steps.append(image_of[steps[-1]])
        return steps

    def test_routes_keep_their_order(self):
        for widths, roads, kept in self.books[:30]:
            book = book_of(widths, roads, kept)
            rows = rows_of(widths)
            for first in book:
                for second in book:
                    same_rows = rows[first[0]] == rows[second[0]] and len(first) == len(second)
                    if same_rows and first[0] <= second[0] and first[-1] <= second[-1]:
                        self.assertTrue(all(left <= right for left, right in zip(first, second)))


if __name__ == "__main__":
    unittest.main()
