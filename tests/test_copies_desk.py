"""Points 2 and 3 for regions, papers, the desk and the journal."""

import unittest

from meetonce.desk import Desk
from meetonce.errors import BadRoute, NoRoad, NoRoute, NotAdmissible, NoWish
from meetonce.filling import fill
from meetonce.journal import deed_line, desk_text, read_deed, read_desk, replay
from meetonce.nets import Net, with_road
from meetonce.order import leftmost, rightmost
from meetonce.papers import book_paper, holds, loss_papers, lot_paper, price_paper, sure_paper, wish_paper
from meetonce.prices import price_table
from meetonce.regions import band, band_book, band_places, join_bands, join_sides, side, side_book, side_places
from tests.copies import CopiesTests, facts
from tests.desk_model import attributes
from tests.samples import DIAMOND, LADDER, GuideCase, deep_list, deep_tuple, spoil

DEEDS = [["wish", [0, 2, 4]], ["close", 0, 1], ["wish", [0, 3, 5]], ["turn", 2, 6, 5], ["reopen", 0, 1], ["drop", 0],
         ["reprice", 0, 1, 2], ["settle"]]


def holds_listed(net, paper):
    """`holds` for a paper whose entries came as one list."""
    return holds(net, (paper[0], *paper[1:]))


def some_papers(net):
    """One paper of each word, all of lists."""
    book = fill(net, [[0, 1, 4, 6]])
    lot_routes = [[0, 1, 4], [0, 2, 4], [0, 1, 4]]
    return [deep_list(paper) for paper in (
        price_paper(net, [0, 1, 4]), price_paper(with_road(net, 0, 1, 5), [0, 1, 4]),
        wish_paper(net, [[0, 1, 4]], [0, 2, 4]), wish_paper(net, [[0, 1, 4]], [2, 4, 6]),
        sure_paper(net, [[0, 1, 4]], 0, 4), sure_paper(net, [[2]], 0, 4), book_paper(book),
        lot_paper(lot_routes, [1, 2, 1]),
        ("lost", [[0, 1, 4]], [0, 2, 4], ("wish", 0)), ("lost", [], [0, 4], ("road", 0, 4)),
        ("lost", [], [0, 1, 4], ("price", [0, 2, 4])))]


def calls():
    """Functions with their arguments, new each time; what is a list holds lists wherever it can."""
    net = Net(*LADDER)
    book = fill(net, [(0, 2, 5, 6), (0, 1, 4)])
    divider = [0, 2, 5, 6]
    dear = with_road(net, 2, 4, 2)
    lost_wishes = [[0, 1, 4], [5]]
    return [(band_places, net, 0, 2), (band, net, 1, 2), (band_book, book, 1, 3),
            (join_bands, net, [0, 2, 3], [band_book(book, 0, 2), band_book(book, 2, 3)]),
            (side_places, net, list(divider)), (side, net, list(divider)), (side_book, book, list(divider)),
            (join_sides, net, list(divider), side_book(book, divider), side_book(book, divider, left=False)),
            (price_paper, net, [0, 1, 4]), (price_paper, dear, [0, 2, 4]), (wish_paper, net, [[0, 1, 4]], [0, 2, 4]),
            (wish_paper, net, [[0, 1, 4]], [2, 4, 6]), (wish_paper, dear, [[0, 1, 4]], [0, 2, 4]),
            (sure_paper, net, [[0, 1, 4]], 0, 4), (sure_paper, net, [[6]], 0, 4), (book_paper, book),
            (lot_paper, [[0, 1, 4], [0, 2, 4], [0, 1, 4]], [1, 2, 1]), (loss_papers, rightmost(net), dear, lost_wishes),
            (deed_line, ["wish", [0, 1, 4]]), (deed_line, ["reprice", 0, 1, -4]), (read_deed, "wish 0 1 4")] + \
           [(holds_listed, net, paper) for paper in some_papers(net)]


class ListsTest(CopiesTests, GuideCase):
    """Point 2."""

    def calls(self):
        """The calls that the shared tests look at."""
        return calls()

    def test_papers_of_lists_hold_as_those_of_tuples_do(self):
        held = []
        for net in (Net(*LADDER), with_road(Net(*LADDER), 0, 1, 5)):
            for paper in some_papers(Net(*LADDER)):
                held.append(holds(net, tuple(paper)))
                self.same(held[-1], holds(net, deep_tuple(paper)))
        self.assertTrue(7 < held.count(True) < len(held) - 3)

    def test_tables_of_papers_are_new_lists(self):
        net = Net(*LADDER)
        table = price_paper(net, [0, 1, 4])[2]
        table[0] = 99
        self.same(price_table(net, 4), price_paper(net, [0, 1, 4])[2])
        book = fill(net)
        for paper in (book_paper(book), sure_paper(net, [[0, 1, 4]], 0, 4), lot_paper([[0]], [3])):
            self.assertTrue(any(isinstance(entry, list) for entry in paper))
            told = facts(paper)
            spoil(paper)
            self.same((True, True), (told != paper, facts(book_paper(book)) == facts(("book", *book_paper(book)[1:]))))
        worths, lot_routes = [3, 1], [[0, 1], [0, 2]]
        paper = lot_paper(lot_routes, worths)
        worths[0] = 8
        lot_routes[0].append(9)
        self.same(("lot", ((0, 1), (0, 2)), [3, 1], [0, 1], [3, 4]), paper)

    def test_deeds_that_are_changed_afterwards(self):
        one, two = Desk(Net(*LADDER)), Desk(Net(*LADDER))
        deeds, route = deep_list(DEEDS), [0, 2, 4]
        before = deep_list(deeds)
        one.play(deeds)
        self.assertEqual(before, deeds)
        told = attributes(one)
        spoil(deeds)
        self.assertTrue(attributes(one) == told)
        self.same(("wish", (0, 2, 4)), one.done[0])
        two.wish(route)
        self.same([0, 2, 4], route)
        route.append(6)
        self.same((((0, 2, 4),), (("wish", (0, 2, 4)),)), (two.wishes, two.done))
        two.undo()
        two.redo()
        self.same(((0, 2, 4),), two.wishes)

    def test_deeds_as_tuples_and_as_lists(self):
        one, two, three = Desk(Net(*LADDER)), Desk(Net(*LADDER)), Desk(Net(*LADDER))
        self.same(one.play(deep_list(DEEDS)), two.play(deep_tuple(DEEDS)))
        three.play([tuple(deed) for deed in DEEDS])
        self.assertTrue(attributes(one) == attributes(two) == attributes(three))
        self.same(deep_tuple(DEEDS), one.done)

    def test_answers_of_a_desk_may_be_changed(self):
        desk, other = Desk(Net(*LADDER)), Desk(Net(*LADDER))
        for deed in deep_tuple(DEEDS):
            spoil(getattr(desk, deed[0])(*deed[1:]))
            getattr(other, deed[0])(*deed[1:])
        for _ in range(4):
            spoil(desk.undo())
            other.undo()
        spoil(desk.redo())
        other.redo()
        spoil(desk.states())
        spoil(desk.play([["settle"]]))
        other.play([("settle",)])
        self.assertTrue(attributes(desk) == attributes(other))
        self.same(other.states(), desk.states())

    def test_desks_that_are_written_or_replayed_stay_as_they_were(self):
        desk = Desk(Net(*LADDER))
        desk.play(DEEDS)
        desk.undo()
        told = attributes(desk)
        for call in (desk_text, replay, lambda one: read_desk(desk_text(one)), Desk.states):
            call(desk)
            self.assertTrue(attributes(desk) == told)

    def test_the_net_of_a_desk_stays_as_it_was(self):
        net = Net(*LADDER)
        told = facts(net)
        Desk(net).play(DEEDS)
        self.same(told, facts(net))

    def test_kinds_of_the_answers(self):
        net = Net(*DIAMOND)
        desk = Desk(net)
        self.same(([0], [0, 1, 3]), (band_places(net, 0, 0), side_places(net, [0, 1, 3])))
        self.same([[(0, 1, 3)], [], [(0, 1), (0, 1, 3)][:1], [], []],
                  [desk.wish([0, 2, 3]), desk.drop(0), desk.close(0, 1), desk.reopen(0, 1), desk.reprice(0, 1, 5)])
        self.same([[(0, 2, 3)], [], []], [desk.turn(0, 3, 1), desk.settle(), desk.play([])])
        self.same([[], [], []], [desk.undo(), desk.redo(), desk.states()])
        self.same(("wish", (0, 1)), read_deed("wish 0 1"))
        self.same(("settle",), read_deed("settle"))


class LimitsTest(GuideCase):
    """Point 3."""

    def tall_net(self):
        """More rows, places and roads and a higher price than the document's limits."""
        roads = []
        for row in range(13):
            for column in range(4):
                start = 4 * row + column
                roads.append((start, start + 4, -3 * 10 ** 9))
                if column < 3:
                    roads.append((start, start + 5, -3 * 10 ** 9))
        return Net([4] * 14, roads)

    def test_larger_nets_are_not_refused(self):
        net = self.tall_net()
        book = fill(net, choices=[1, 0, 2] * 100)
        self.assertTrue(join_bands(net, list(range(14)), [band_book(book, row, row + 1) for row in range(13)])
                        == leftmost(net))
        divider = book.route(0, 52)
        self.assertTrue(divider in join_sides(net, divider, side_book(book, divider),
                                              side_book(book, divider, left=False)))
        self.same(True, holds(net, price_paper(net, divider)))
        self.same(True, holds(net, book_paper(book)))

    def test_longer_lists_of_wishes_and_deeds_are_not_refused(self):
        desk = Desk(Net(*DIAMOND))
        desk.play([("wish", [0])] * 70 + [("close", 0, 1), ("reopen", 0,
                                                            1)] * 10 + [("drop", 3), ("reprice", 0, 1, 10 ** 30)] * 65)
        self.same((220, 5), (len(desk.done), len(desk.wishes)))
        for _ in range(215):
            desk.undo()
        self.same((5, 5, 215), (len(desk.done), len(desk.wishes), len(desk.undone)))
        self.assertTrue(attributes(read_desk(desk_text(desk))) == attributes(desk))

    def test_integers_that_are_no_places(self):
        net = Net(*DIAMOND)
        desk, told = Desk(net), attributes(Desk(net))
        for other in (-1, -4, 4, 40, 10 ** 59, -10 ** 59):
            for call in (side_places, side, price_paper):
                self.refused(BadRoute, {"index": 0, "at": 0}, call, net, [other])
            self.refused(BadRoute, {"index": 0, "at": 1}, desk.wish, [0, other])
            self.refused(NoWish, {"index": other}, desk.drop, other)
            for call in (desk.close, desk.reopen, lambda start, end: desk.reprice(start, end, 1)):
                self.refused(NoRoad, {"start": other, "end": 0}, call, other, 0)
                self.refused(NoRoad, {"start": 0, "end": other}, call, 0, other)
            for start, goal in ((other, other), (0, other), (other, 3)):
                self.refused(NoRoute, {"start": start, "goal": goal}, desk.turn, start, goal, 1)
                self.refused(NoRoute, {"start": start, "goal": goal}, sure_paper, net, [], start, goal)
            self.refused(NotAdmissible, {"place": other}, desk.turn, 0, 3, other)
        self.assertTrue(attributes(desk) == told)


if __name__ == "__main__":
    unittest.main()
