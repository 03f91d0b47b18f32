"""Points 64 to 68: the desk."""

import random
import unittest

from meetonce.changes import amend, turn
from meetonce.desk import Desk
from meetonce.errors import (BadRoute, Conflict, Forced, NoRoad, NoRoute, NotAdmissible, NotCheapest, NothingToRedo,
                             NothingToUndo, NoWish)
from meetonce.nets import Net, with_road, without_road
from meetonce.order import leftmost, rightmost
from tests.desk_model import DeskModel, attributes, do_on, outcome
from tests.samples import DIAMOND, LADDER, GuideCase, deep_list, random_nets, routes_of, small_nets

FAR = 10 ** 59


class DeskCase(GuideCase):
    """A test case that looks at all attributes of a desk."""

    def stands(self, desk, **expected):
        """These attributes of the desk are as expected."""
        for name, value in expected.items():
            with self.subTest(name):
                self.assertTrue(value == getattr(desk, name), f"{name}: {value} is not {getattr(desk, name)}")

    def refuses(self, desk, error_class, fields, call, *args):
        """The call is refused and changes nothing."""
        before = attributes(desk)
        states = desk.states()
        self.refused(error_class, fields, call, *args)
        self.assertTrue(attributes(desk) == before)
        self.same(states, desk.states())


class NewDeskTest(DeskCase):
    """Point 64."""

    def test_attributes(self):
        for net in (Net(*LADDER), Net(*DIAMOND), Net([3], [])):
            desk = Desk(net)
            self.stands(desk, first_net=net, net=net, closed=(), wishes=(), awake=(), book=leftmost(net), done=(),
                        undone=())
            self.same([(), (), (), (), ()], [desk.closed, desk.wishes, desk.awake, desk.done, desk.undone])
            self.same([], desk.states())

    def test_states(self):
        desk = Desk(Net(*LADDER))
        desk.wish([0, 2, 5, 6])
        desk.wish([1, 4])
        self.same([None, None], desk.states())
        desk.close(2, 5)
        desk.wish([0, 3, 5])
        self.same([("road", 2, 5), None, None], desk.states())
        desk.reprice(0, 3, 2)
        self.same([("road", 2, 5), None, None], desk.states())
        desk.reopen(2, 5)
        self.same([None, None, ("price", (0, 2, 5))], desk.states())
        desk.reprice(0, 3, 1)
        self.same([None, None, ("wish", 0)], desk.states())
        self.same(((0, 2, 5, 6), (1, 4)), desk.awake)
        self.same(((0, 2, 5, 6), (1, 4), (0, 3, 5)), desk.wishes)


class DeedsTest(DeskCase):
    """Points 65 and 66, deed by deed."""

    def test_wish(self):
        desk = Desk(Net(*LADDER))
        self.same([(0, 1, 4), (0, 1, 4, 6)], desk.wish([0, 2, 4]))
        self.stands(desk, wishes=((0, 2, 4),), awake=((0, 2, 4),), done=(("wish", (0, 2, 4)),), undone=())
        self.assertTrue(desk.book == amend(leftmost(desk.net), desk.net, [(0, 2, 4)]))
        self.same([], desk.wish((0, 2, 4)))
        self.same([], desk.wish([6]))
        self.same([], desk.wish((2, 4)))
        self.same(((0, 2, 4), (0, 2, 4), (6,), (2, 4)), desk.wishes)
        self.same((("wish", (0, 2, 4)), ("wish", (0, 2, 4)), ("wish", (6,)), ("wish", (2, 4))), desk.done)
        self.same(desk.wishes, desk.awake)

    def test_wishes_that_are_refused(self):
        desk = Desk(with_road(Net(*LADDER), 3, 5, 2))
        desk.wish([2, 5])
        desk.wish([0, 1, 4])
        for route, at in (([], 0), ([7], 0), ((-1, 0), 0), ([0, 4], 1), ([0, 2, 4, 5], 3), ((0, FAR), 1)):
            self.refuses(desk, BadRoute, {"index": 0, "at": at}, desk.wish, route)
        self.refuses(desk, NotCheapest, {"index": 0, "cheaper": (0, 2, 5)}, desk.wish, (0, 3, 5))
        self.refuses(desk, NotCheapest, {"index": 0, "cheaper": (0, 1, 4, 6)}, desk.wish, [0, 3, 5, 6])
        self.refuses(desk, Conflict, {"first": 1, "second": 2, "split": 0, "meeting": 4}, desk.wish, [0, 2, 4])
        self.refuses(desk, Conflict, {"first": 1, "second": 2, "split": 0, "meeting": 4}, desk.wish, [0, 2, 4, 6])

    def test_conflicts_count_the_asleep_wishes_but_do_not_name_them(self):
        desk = Desk(Net(*LADDER))
        desk.wish([0, 2, 5, 6])
        desk.wish([0, 1])
        desk.close(2, 5)
        desk.wish([0, 3, 5])
        desk.wish([0, 1, 4, 6])
        self.same([("road", 2, 5), None, None, None], desk.states())
        self.refuses(desk, Conflict, {"first": 3, "second": 4, "split": 0, "meeting": 4}, desk.wish, [0, 2, 4])
        self.refuses(desk, Conflict, {"first": 3, "second": 4, "split": 0, "meeting": 6}, desk.wish, [0, 3, 5, 6])
        # Two awake wishes are in conflict with it: the one with the smaller index is named.
        desk.wish([0, 1, 4])
        self.refuses(desk, Conflict, {"first": 3, "second": 5, "split": 0, "meeting": 4}, desk.wish, [0, 2, 4])
        desk.drop(3)
        self.refuses(desk, Conflict, {"first": 3, "second": 4, "split": 0, "meeting": 4}, desk.wish, [0, 2, 4])

    def test_a_wish_that_conflicts_with_an_asleep_one_is_accepted(self):
        desk = Desk(Net(*DIAMOND))
        desk.wish([0, 2, 3])
        desk.close(2, 3)
        desk.wish([0, 1, 3])
        self.stands(desk, awake=((0, 1, 3),))
        self.same([(0, 1, 3)], desk.reopen(2, 3))
        self.same([None, ("wish", 0)], desk.states())
        self.stands(desk, awake=((0, 2, 3),), wishes=((0, 2, 3), (0, 1, 3)))
        self.same([(0, 2, 3)], desk.close(2, 3)[1:])
        self.same([("road", 2, 3), None], desk.states())
        desk.drop(1)
        self.same([("road", 2, 3)], desk.states())

    def test_drop(self):
        desk = Desk(Net(*LADDER))
        for route in ([0, 2, 4], [6], [2, 5]):
            desk.wish(route)
        book = desk.book
        self.same([], desk.drop(1))
        self.stands(desk, wishes=((0, 2, 4), (2, 5)), awake=((0, 2, 4), (2, 5)), book=book)
        self.same(("drop", 1), desk.done[-1])
        for index in (2, 3, -1, -2, -3, FAR, -FAR):
            self.refuses(desk, NoWish, {"index": index}, desk.drop, index)
        desk.close(0, 2)
        desk.drop(0)
        self.stands(desk, wishes=((2, 5),))
        desk.drop(0)
        self.stands(desk, wishes=(), awake=())
        self.refuses(desk, NoWish, {"index": 0}, desk.drop, 0)

    def test_a_dropped_wish_wakes_another_one_up(self):
        desk = Desk(Net(*DIAMOND))
        desk.close(1, 3)
        desk.wish([0, 2, 3])
        desk.close(2, 3)
        desk.reopen(1, 3)
        desk.wish([0, 1, 3])
        desk.reopen(2, 3)
        self.same([None, ("wish", 0)], desk.states())
        self.same([(0, 2, 3)], desk.drop(0))
        self.same(((0, 1, 3),), desk.awake)

    def test_close_and_reopen(self):
        net = with_road(Net(*LADDER), 0, 3, -7)
        desk = Desk(net)
        self.same((0, 3, 5, 6), desk.book.route(0, 6))
        self.same([(0, 3), (0, 3, 5), (0, 3, 5, 6)], desk.close(0, 3))
        self.stands(desk, net=without_road(net, 0, 3), closed=((0, 3, -7),), first_net=net)
        self.same([(1, 4), (0, 1, 4), (1, 4, 6), (0, 1, 4, 6)], desk.close(1, 4))
        self.same(((0, 3, -7), (1, 4, 1)), desk.closed)
        for start, end in ((0, 3), (1, 4), (3, 0), (0, 6), (1, 5), (-1, 1), (7, 8), (FAR, -FAR), (0, 0)):
            self.refuses(desk, NoRoad, {"start": start, "end": end}, desk.close, start, end)
        for start, end in ((0, 1), (4, 6), (3, 0), (0, 6), (-1, 1), (7, 8), (FAR, -FAR), (0, 0)):
            self.refuses(desk, NoRoad, {"start": start, "end": end}, desk.reopen, start, end)
        desk.reopen(0, 3)
        self.stands(desk, closed=((1, 4, 1),), net=without_road(net, 1, 4))
        self.refuses(desk, NoRoad, {"start": 0, "end": 3}, desk.reopen, 0, 3)
        desk.reopen(1, 4)
        self.stands(desk, closed=(), net=net)
        self.same((("close", 0, 3), ("close", 1, 4), ("reopen", 0, 3), ("reopen", 1, 4)), desk.done)

    def test_closed_roads_stand_in_ascending_order(self):
        desk = Desk(Net(*LADDER))
        for road in ((4, 6), (0, 3), (2, 5), (0, 1)):
            desk.close(*road)
        self.same(((0, 1, 1), (0, 3, 1), (2, 5, 1), (4, 6, 1)), desk.closed)

    def test_reprice(self):
        desk = Desk(Net(*LADDER))
        self.same([(0, 1, 4), (0, 1, 4, 6)], desk.reprice(0, 1, 1000000))
        self.stands(desk, net=with_road(desk.first_net, 0, 1, 1000000))
        self.same([], desk.reprice(0, 1, 1))
        self.same((0, 2, 4), desk.book.route(0, 4))
        self.same([], desk.reprice(4, 6, 1))
        self.same((("reprice", 0, 1, 1000000), ("reprice", 0, 1, 1), ("reprice", 4, 6, 1)), desk.done)
        for start, end in ((0, 4), (1, 0), (-1, 1), (7, 8), (FAR, -FAR), (1, 5)):
            self.refuses(desk, NoRoad, {"start": start, "end": end}, desk.reprice, start, end, -5)
        desk.close(0, 1)
        self.refuses(desk, NoRoad, {"start": 0, "end": 1}, desk.reprice, 0, 1, 1)
        # A closed road comes back with the price that it had when it was closed.
        desk.reprice(0, 2, -4)
        desk.close(0, 2)
        self.same(((0, 1, 1), (0, 2, -4)), desk.closed)
        desk.reopen(0, 2)
        self.same(-4, desk.net.price_of(0, 2))

    def test_turn(self):
        desk = Desk(Net(*LADDER))
        desk.wish([0, 1, 4])
        before = desk.book
        self.same([(0, 2, 5)], desk.turn(0, 5, 3))
        self.stands(desk, book=turn(before, 0, 5, 3, wishes=[(0, 1, 4)]), awake=((0, 1, 4),))
        self.same([], desk.turn(0, 5, 3))
        self.same((("wish", (0, 1, 4)), ("turn", 0, 5, 3), ("turn", 0, 5, 3)), desk.done)

    def test_turns_that_are_refused(self):
        desk = Desk(Net(*LADDER))
        desk.wish([0, 2, 5, 6])
        desk.wish([6])
        desk.close(2, 5)
        for route in ([0, 3, 5], [1, 4, 6], [0, 1, 4, 6], [0, 1, 4]):
            desk.wish(route)
        self.same([("road", 2, 5), None, None, None, None, None], desk.states())
        for start, goal in ((0, 0), (6, 0), (2, 5), (1, 5), (7, 7), (-1, 6), (FAR, FAR)):
            self.refuses(desk, NoRoute, {"start": start, "goal": goal}, desk.turn, start, goal, goal)
        for place in (0, 5, 4, -1, 7, FAR):
            self.refuses(desk, NotAdmissible, {"place": place}, desk.turn, 0, 4, place)
        self.refuses(desk, NotAdmissible, {"place": 2}, desk.turn, 0, 6, 2)
        self.refuses(desk, Forced, {"index": 4}, desk.turn, 0, 4, 2)
        self.refuses(desk, Forced, {"index": 4}, desk.turn, 0, 6, 3)
        self.same([], desk.turn(0, 4, 1))
        desk.drop(4)
        self.refuses(desk, Forced, {"index": 4}, desk.turn, 0, 4, 2)
        self.same([(0, 1, 4, 6)], desk.turn(0, 6, 3))

    def test_settle(self):
        desk = Desk(Net(*LADDER))
        self.same([], desk.settle())
        desk.turn(0, 5, 3)
        desk.wish([2, 5])
        desk.turn(2, 6, 5)
        self.same([(0, 3, 5), (2, 5, 6)], desk.settle())
        self.stands(desk, book=leftmost(desk.net, [(2, 5)]))
        desk.wish([0, 3, 5])
        self.same([], desk.settle())
        self.stands(desk, book=leftmost(desk.net, [(2, 5), (0, 3, 5)]))
        self.same(("settle",), desk.done[-1])
        # Only awake wishes are kept.
        desk.close(3, 5)
        self.same([], desk.settle())
        self.stands(desk, book=leftmost(desk.net, [(2, 5)]))

    def test_what_a_deed_loses_comes_in_filling_order_of_the_former_net(self):
        desk = Desk(rightmost(Net(*LADDER)).net)
        lost = desk.close(0, 1)
        self.same([(0, 1), (0, 1, 4), (0, 1, 4, 6)], lost)
        lost = desk.close(4, 6)
        self.same([(4, 6), (1, 4, 6), (2, 4, 6), (0, 2, 4, 6)], lost)

    def test_a_deed_empties_undone_even_if_it_changes_nothing_else(self):
        for deed in (("turn", 0, 4, 1), ("reprice", 0, 1, 1), ("settle",), ("wish", (2,))):
            desk = Desk(Net(*LADDER))
            desk.close(2, 5)
            desk.undo()
            self.same((("close", 2, 5),), desk.undone)
            self.same([], do_on(desk, deed))
            self.stands(desk, undone=(), done=(deed,), book=leftmost(desk.net))

    def test_a_refused_deed_leaves_undone_as_it_is(self):
        desk = Desk(Net(*LADDER))
        desk.close(2, 5)
        desk.wish([2])
        desk.undo()
        for error_class, fields, call, *args in ((NoRoad, {"start": 2, "end": 5}, desk.close, 2, 5),
                                                 (NoWish, {"index": 0}, desk.drop, 0),
                                                 (BadRoute, {"index": 0, "at": 0}, desk.wish, [])):
            self.refuses(desk, error_class, fields, call, *args)
        self.same((("wish", (2,)),), desk.undone)


class UndoTest(DeskCase):
    """Point 67."""

    DEEDS = (("wish", (0, 2, 4)), ("close", 0, 2), ("wish", (0, 1, 4)), ("reopen", 0, 2), ("drop", 0),
             ("turn", 0, 5, 3), ("reprice", 0, 3, 2), ("settle",), ("reprice", 0, 3, 1), ("turn", 2, 6, 5))

    def test_nothing_to_undo_or_to_redo(self):
        desk = Desk(Net(*LADDER))
        self.refuses(desk, NothingToUndo, {}, desk.undo)
        self.refuses(desk, NothingToRedo, {}, desk.redo)
        desk.settle()
        self.refuses(desk, NothingToRedo, {}, desk.redo)
        desk.undo()
        self.refuses(desk, NothingToUndo, {}, desk.undo)
        desk.redo()
        self.refuses(desk, NothingToRedo, {}, desk.redo)

    def test_all_deeds_back_and_forth(self):
        desk = Desk(Net(*LADDER))
        seen = [attributes(desk)[:6]]
        for deed in self.DEEDS:
            self.assertIsInstance(do_on(desk, deed), list)
            seen.append(attributes(desk)[:6])
        for at in range(len(self.DEEDS), 0, -1):
            lost = desk.undo()
            self.same([route for route in seen[at][5].routes if route not in seen[at - 1][5]], lost)
            self.assertTrue(attributes(desk)[:6] == seen[at - 1])
            self.stands(desk, done=self.DEEDS[:at - 1], undone=self.DEEDS[at - 1:])
        for at in range(1, len(self.DEEDS) + 1):
            lost = desk.redo()
            self.same([route for route in seen[at - 1][5].routes if route not in seen[at][5]], lost)
            self.assertTrue(attributes(desk)[:6] == seen[at])
            self.stands(desk, done=self.DEEDS[:at], undone=self.DEEDS[at:])

    def test_what_undo_loses(self):
        desk = Desk(Net(*DIAMOND))
        self.same([(0, 1, 3)], desk.turn(0, 3, 2))
        self.same([(0, 2, 3)], desk.undo())
        self.same([(0, 1, 3)], desk.redo())
        self.same([(2, 3), (0, 2, 3)], desk.close(2, 3))
        self.same([(0, 1, 3)], desk.undo())
        self.same((0, 2, 3), desk.book.route(0, 3))

    def test_a_deed_in_between_empties_undone(self):
        desk = Desk(Net(*LADDER))
        for deed in self.DEEDS[:4]:
            do_on(desk, deed)
        desk.undo()
        desk.undo()
        self.same(self.DEEDS[2:4], desk.undone)
        desk.settle()
        self.stands(desk, undone=(), done=self.DEEDS[:2] + (("settle",),))
        self.refuses(desk, NothingToRedo, {}, desk.redo)
        desk.undo()
        self.same((("settle",),), desk.undone)

    def test_redo_leaves_the_other_undone_deeds(self):
        desk = Desk(Net(*LADDER))
        for deed in self.DEEDS[:5]:
            do_on(desk, deed)
        for _ in range(4):
            desk.undo()
        desk.redo()
        desk.redo()
        self.stands(desk, done=self.DEEDS[:3], undone=self.DEEDS[3:5])


class PlayTest(DeskCase):
    """Point 68."""

    def test_no_deeds(self):
        desk = Desk(Net(*LADDER))
        desk.wish([0, 2, 4])
        desk.settle()
        desk.undo()
        before = attributes(desk)
        for deeds in ([], ()):
            self.same([], desk.play(deeds))
            self.assertTrue(attributes(desk) == before)
        self.same((("settle",),), desk.undone)

    def test_several_deeds(self):
        for deeds in (UndoTest.DEEDS, list(UndoTest.DEEDS), [list(deed) for deed in UndoTest.DEEDS],
                      deep_list(UndoTest.DEEDS)):
            one, two = Desk(Net(*LADDER)), Desk(Net(*LADDER))
            former = one.book
            for deed in UndoTest.DEEDS:
                do_on(one, deed)
            self.same([route for route in former.routes if route not in one.book], two.play(deeds))
            self.assertTrue(attributes(one) == attributes(two))
            self.same(UndoTest.DEEDS, two.done)
            # Each deed is in `done` by itself.
            one.undo()
            two.undo()
            self.assertTrue(attributes(one) == attributes(two))
            self.same(UndoTest.DEEDS[-1:], two.undone)

    def test_what_is_lost_on_the_way_and_comes_back_is_not_lost(self):
        desk = Desk(Net(*DIAMOND))
        self.same([], desk.play([("turn", 0, 3, 2), ("turn", 0, 3, 1)]))
        self.same([], desk.play([("close", 0, 1), ("reopen", 0, 1), ("settle",)]))
        self.same([(0, 1, 3)], desk.play([("close", 0, 1), ("reopen", 0, 1)]))

    def test_a_deed_that_is_refused(self):
        desk = Desk(Net(*LADDER))
        desk.wish([0, 1, 4])
        desk.close(2, 5)
        desk.settle()
        desk.undo()
        self.refuses(desk, NoRoad, {"start": 0, "end": 1}, desk.play, [("close", 0, 1), ["close", 0, 1], ("settle",)])
        # The error has the numbers that it had at that moment.
        self.refuses(desk, NoWish, {"index": 2}, desk.play, [("wish", [2]), ("drop", 0), ("drop", 2)])
        self.refuses(desk, Conflict, {"first": 2, "second": 3, "split": 0, "meeting": 5}, desk.play,
                     [("wish", [6]), ("reopen", 2, 5), ("wish", [0, 2, 5]), ("wish", (0, 3, 5)), ("drop", 9)])
        self.refuses(desk, BadRoute, {"index": 0, "at": 0}, desk.play, [("wish", [])])
        self.refuses(desk, NotCheapest, {"index": 0, "cheaper": (0, 1, 4, 6)}, desk.play,
                     [("reprice", 4, 6, 0), ("wish", (0, 3, 5, 6))])
        self.refuses(desk, Forced, {"index": 0}, desk.play, [("settle",), ("turn", 0, 4, 2)])
        self.refuses(desk, NotAdmissible, {"place": 9}, desk.play, [("settle",), ("turn", 0, 4, 9), ("drop", 7)])
        self.refuses(desk, NoRoute, {"start": 2, "goal": 5}, desk.play, [("settle",), ("turn", 2, 5, 5)])
        self.same((("settle",),), desk.undone)
        desk.undo()
        self.same((("close", 2, 5), ("settle",)), desk.undone)
        self.stands(desk, net=desk.first_net, wishes=((0, 1, 4),))

    def test_undo_behind_play_and_refused_plays(self):
        desk = Desk(Net(*LADDER))
        desk.play(UndoTest.DEEDS[:3])
        self.refuses(desk, NoWish, {"index": 5}, desk.play, [("settle",), ("close", 1, 4), ("drop", 5)])
        desk.undo()
        self.stands(desk, done=UndoTest.DEEDS[:2], undone=UndoTest.DEEDS[2:3])
        self.refuses(desk, NoWish, {"index": 5}, desk.play, [("settle",), ("close", 1, 4), ("drop", 5)])
        desk.redo()
        self.stands(desk, done=UndoTest.DEEDS[:3], undone=(), wishes=((0, 2, 4), (0, 1, 4)))

    def test_the_deeds_of_the_desk_itself_can_be_played(self):
        desk = Desk(Net(*LADDER))
        desk.play(UndoTest.DEEDS[:4])
        desk.undo()
        desk.undo()
        desk.play(desk.undone)
        self.stands(desk, done=UndoTest.DEEDS[:4], undone=())


class ModelTest(DeskCase):
    """All points against the model."""

    def some_deed(self, rng, desk, every):
        """A deed that is often accepted."""
        net = desk.net
        ends = rng.choice([road[:2] for road in net.roads + desk.closed] or [(0, 1)])
        pair = rng.choice(net.pairs or [(0, 0)])
        long_wishes = [wish for wish in desk.awake if len(wish) > 2]
        if long_wishes and rng.random() < 0.5:
            wish = rng.choice(long_wishes)
            pair = (wish[0], wish[-1])
        places = desk.book.admissible(*pair) if pair in net.pairs else [0]
        place = rng.choice(places) if rng.random() < 0.8 else rng.randint(-1, net.size)
        route = rng.choice(every) if rng.random() < 0.7 else rng.choice(desk.book.routes or every)
        if rng.random() < 0.3:
            return ("wish", route)
        return rng.choice([("wish", list(route)), ("wish", tuple(route)), ("wish", route[:-1] + route[:1]),
                           ("drop", rng.randint(-1, 4)), ("close", *ends),
                           ("turn", *pair, place), ("turn", *pair, place),
                           ("reopen", *rng.choice(desk.closed or [ends + (0,)])[:2]),
                           ("reopen", *rng.choice(desk.closed or [ends + (0,)])[:2]),
                           ("reprice", *ends, rng.choice([0, 0, 1])), ("settle",)])

    def test_random_deeds(self):
        rng = random.Random(64)
        outcomes = {}
        few_books = [(widths, roads) for widths, roads, _ in small_nets(6401, 12, most=60)]
        for widths, roads in [LADDER] * 8 + few_books + random_nets(6402, 10):
            net = Net(widths, roads)
            desk, model = Desk(net), DeskModel(net)
            every = [route for routes in routes_of(widths, roads).values() for route in routes
                     if len(route) > 2 or rng.random() < 0.1] or [(0,)]
            for _ in range(60):
                self.step(rng, desk, model, every, outcomes)
                self.assertTrue(attributes(desk) == model.told())
                self.same(model.state().reasons(), desk.states())
        for name in ("list", "BadRoute", "NotCheapest", "Conflict", "NoWish", "NoRoad", "NoRoute", "NotAdmissible",
                     "Forced", "NothingToUndo", "NothingToRedo"):
            self.assertGreater(outcomes.get(name, 0), 4, outcomes)

    def step(self, rng, desk, model, every, outcomes):
        """One call of both; they answer alike."""
        kind = rng.random()
        if kind < 0.75:
            deed = self.some_deed(rng, desk, every)
            expected, answer = outcome(model.do, deed), do_on(desk, deed)
        elif kind < 0.83:
            expected, answer = outcome(model.undo), outcome(desk.undo)
        elif kind < 0.91:
            expected, answer = outcome(model.redo), outcome(desk.redo)
        else:
            deeds = [self.some_deed(rng, desk, every) for _ in range(rng.randint(0, 3))]
            expected, answer = outcome(model.play, deeds), outcome(desk.play, deeds)
        self.same(expected, answer)
        name = answer[0] if isinstance(answer, tuple) else "list"
        outcomes[name] = outcomes.get(name, 0) + 1


if __name__ == "__main__":
    unittest.main()
