"""Points 20 to 22: wishes."""

import random
import unittest

from meetonce.errors import BadRoute, Conflict, NotCheapest
from meetonce.nets import Net, with_road, without_road
from meetonce.wishes import check_wishes, wish_states
from tests.samples import DIAMOND, LADDER, GuideCase, cheapest_of, conflict_of, random_nets, rows_of

FAR = 10 ** 59
# Two diamonds one above the other: 0, 1 2, 3, 4 5, 6. The right side of the upper one is dear.
TOWER = ((1, 2, 1, 2, 1), ((0, 1, 1), (0, 2, 1), (1, 3, 1), (2, 3, 1),
                           (3, 4, 1), (3, 5, 2), (4, 6, 1), (5, 6, 1)))


class CheckWishesTest(GuideCase):
    """Points 20 and 21."""

    def test_wishes_that_fit(self):
        net = Net(*LADDER)
        wishes = [[0, 1, 4, 6], (0, 1), [2, 5], (0, 3), [4, 6]]
        self.same(((0, 1, 4, 6), (0, 1), (2, 5), (0, 3), (4, 6)), check_wishes(net, wishes))
        self.same(((0, 1, 4, 6), (0, 1), (2, 5), (0, 3), (4, 6)), check_wishes(net, tuple(wishes)))

    def test_no_wishes_and_wishes_of_one_place(self):
        net = Net(*DIAMOND)
        self.same((), check_wishes(net, []))
        self.same((), check_wishes(net, ()))
        self.same(((2,), (0,), (1,)), check_wishes(net, [[2], [0], (1,)]))

    def test_equal_wishes_and_parts(self):
        net = Net(*DIAMOND)
        wishes = ((0, 1, 3), (0, 1, 3), (1, 3), (0,), (0, 1, 3))
        self.same(wishes, check_wishes(net, [list(wish) for wish in wishes]))

    def test_bad_routes(self):
        net = Net(*DIAMOND)
        for wish, at in (([], 0), ([4], 0), ([-1, 3], 0), ([0, 3], 1), ([0, 1, 2], 2), ([0, 2, FAR], 2), ([3, 1], 1)):
            self.refused(BadRoute, {"index": 0, "at": at}, check_wishes, net, [wish])
            self.refused(BadRoute, {"index": 2, "at": at}, check_wishes, net, [[0, 1], (1, 3), wish, [0, 2]])

    def test_wishes_that_are_not_cheapest(self):
        net = Net(*TOWER)
        self.refused(NotCheapest, {"index": 0, "cheaper": (3, 4, 6)}, check_wishes, net, [[3, 5, 6]])
        self.refused(NotCheapest, {"index": 1, "cheaper": (0, 1, 3, 4, 6)}, check_wishes, net,
                     [(0, 2, 3), (0, 2, 3, 5, 6)])
        self.same(((3, 5), (5, 6)), check_wishes(net, [(3, 5), (5, 6)]))

    def test_conflicts(self):
        net = Net(*LADDER)
        self.refused(Conflict, {"first": 0, "second": 1, "split": 0, "meeting": 6}, check_wishes, net,
                     [[0, 1, 4, 6], [0, 3, 5, 6]])
        self.refused(Conflict, {"first": 1, "second": 3, "split": 0, "meeting": 4}, check_wishes, net,
                     [[0, 2], [0, 1, 4], (2, 5, 6), (0, 2, 4), (0, 2, 4, 6)])
        self.refused(Conflict, {"first": 0, "second": 1, "split": 2, "meeting": 6}, check_wishes, net,
                     [(2, 4, 6), (0, 2, 5, 6)])

    def test_the_smallest_index_of_a_conflict_counts(self):
        net = Net(*LADDER)
        self.refused(Conflict, {"first": 2, "second": 4, "split": 0, "meeting": 5}, check_wishes, net,
                     [(0, 1), (1, 4, 6), (0, 3, 5, 6), (0, 3, 5), (0, 2, 5, 6)])
        self.refused(Conflict, {"first": 1, "second": 2, "split": 2, "meeting": 6}, check_wishes, net,
                     [(0, 2), (2, 5, 6), (0, 2, 4, 6)])

    def test_the_first_wrong_wish_counts(self):
        net = Net(*TOWER)
        good, bad, dear, clash = (0, 1, 3), (0, 3), (3, 5, 6), (0, 2, 3)
        self.refused(BadRoute, {"index": 1, "at": 1}, check_wishes, net, [good, bad, dear, clash])
        self.refused(NotCheapest, {"index": 1, "cheaper": (3, 4, 6)}, check_wishes, net, [good, dear, clash, bad])
        self.refused(Conflict, {"first": 0, "second": 1, "split": 0, "meeting": 3}, check_wishes, net,
                     [good, clash, bad, dear])

    def test_a_dear_wish_is_told_before_its_conflict(self):
        net = Net(*TOWER)
        self.refused(NotCheapest, {"index": 1, "cheaper": (3, 4, 6)}, check_wishes, net, [(3, 4, 6), (3, 5, 6)])


class WishStatesTest(GuideCase):
    """Point 22."""

    def test_all_are_awake(self):
        net = Net(*LADDER)
        self.same([None] * 4, wish_states(net, [[0, 1, 4, 6], (0, 1), [0, 1, 4, 6], [5]]))
        self.same([None] * 4, wish_states(net, ([0, 1, 4, 6], (0, 1), [0, 1, 4, 6], (5,))))

    def test_no_wishes_and_places_of_one_row(self):
        self.same([], wish_states(Net(*LADDER), []))
        self.same([], wish_states(Net([3], []), ()))
        self.same([None, None, None], wish_states(Net([3], []), [[2], (0,), [2]]))

    def test_a_road_that_is_not_there(self):
        net = without_road(Net(*LADDER), 2, 5)
        self.same([("road", 2, 5), None], wish_states(net, [(0, 2, 5, 6), (0, 2, 4, 6)]))
        net = without_road(without_road(net, 0, 2), 4, 6)
        self.same([("road", 0, 2), ("road", 0, 2), ("road", 2, 5), ("road", 4, 6)],
                  wish_states(net, [[0, 2, 5, 6], [0, 2, 4, 6], [2, 5], (0, 1, 4, 6)]))
        self.same([("road", 1, 5)], wish_states(net, [(0, 1, 5, 6)]))

    def test_a_wish_that_is_not_cheapest_any_more(self):
        net = with_road(Net(*LADDER), 2, 4, 2)
        self.same([("price", (0, 1, 4)), ("price", (0, 1, 4, 6)), ("price", (2, 5, 6)), None],
                  wish_states(net, [(0, 2, 4), [0, 2, 4, 6], [2, 4, 6], [2, 4]]))

    def test_a_road_comes_before_a_price_and_a_price_before_a_wish(self):
        net = without_road(with_road(Net(*LADDER), 0, 2, 2), 5, 6)
        self.same([None, ("road", 5, 6), ("price", (0, 1, 4, 6)), ("price", (0, 3, 5))],
                  wish_states(net, [(0, 1, 4, 6), (0, 2, 5, 6), (0, 2, 4, 6), (0, 2, 5)]))

    def test_a_conflict_with_an_earlier_wish(self):
        net = Net(*LADDER)
        self.same([None, None, ("wish", 0), None, ("wish", 1)],
                  wish_states(net, [(0, 1, 4), [0, 3, 5, 6], [0, 2, 4], [1, 4, 6], [0, 1, 4, 6]]))

    def test_a_conflict_with_a_wish_that_is_asleep_does_not_count(self):
        net = Net(*LADDER)
        # The last wish conflicts with the one before it only, which sleeps because of the first one.
        self.same([None, ("wish", 0), None], wish_states(net, [(0, 1, 4), (0, 2, 4, 6), (2, 5, 6)]))
        self.same([None, None], wish_states(net, [(0, 1, 4), (2, 5, 6)]))
        self.same([None, ("wish", 0)], wish_states(net, [(0, 2, 4, 6), (2, 5, 6)]))
        dear = with_road(net, 4, 6, 5)
        self.same([("price", (0, 2, 5, 6)), None], wish_states(dear, [(0, 2, 4, 6), (2, 5, 6)]))
        closed = without_road(net, 4, 6)
        self.same([("road", 4, 6), None], wish_states(closed, [(0, 2, 4, 6), (2, 5, 6)]))

    def test_the_smallest_index_of_an_awake_wish(self):
        net = Net(*LADDER)
        self.same([None, ("wish", 0), None, None, ("wish", 2)],
                  wish_states(net, [(0, 1, 4), (0, 2, 4, 6), (0, 3, 5, 6), (0, 3, 5), (0, 2, 5, 6)]))

    def test_wishes_that_fit_are_all_awake_and_others_are_not(self):
        rng = random.Random(22)
        for widths, roads in random_nets(23, 40):
            net = Net(widths, roads)
            cheapest = cheapest_of(widths, roads)
            wishes = [self.climbing_list(rng, widths) for _ in range(8)]
            wishes += [list(rng.choice(rng.choice(list(cheapest.values())))) for _ in range(6)]
            rng.shuffle(wishes)
            states = wish_states(net, wishes)
            self.same(self.reasons(net, roads, cheapest, wishes), states)
            awake = [wish for wish, state in zip(wishes, states) if state is None]
            self.same(tuple(tuple(wish) for wish in awake), check_wishes(net, awake))

    def climbing_list(self, rng, widths):
        """A list of places, each in the row above the one before."""
        rows = rows_of(widths)
        low = rng.randrange(len(widths))
        high = rng.randrange(low, len(widths))
        return [rng.choice([place for place, row in enumerate(rows) if row == wanted])
                for wanted in range(low, high + 1)]

    def reasons(self, net, roads, cheapest, wishes):
        """Point 22, word by word."""
        states = []
        for wish in [tuple(each) for each in wishes]:
            gaps = [step for step in zip(wish, wish[1:]) if step not in {road[:2] for road in roads}]
            clashes = [at for at, state in enumerate(states)
                       if not gaps and state is None and conflict_of(tuple(wishes[at]), wish)]
            if gaps:
                states.append(("road",) + gaps[0])
            elif wish not in cheapest[(wish[0], wish[-1])]:
                states.append(("price", cheapest[(wish[0], wish[-1])][0]))
            elif clashes:
                states.append(("wish", clashes[0]))
            else:
                states.append(None)
        return states


if __name__ == "__main__":
    unittest.main()
