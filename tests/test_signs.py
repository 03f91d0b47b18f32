"""Point 46: signposts."""

import random
import unittest

from meetonce.errors import NoRoute
from meetonce.filling import fill
from meetonce.nets import Net
from meetonce.signs import Signpost
from tests.samples import DIAMOND, LADDER, GuideCase, all_books, random_nets, random_routes_of_a_book, rows_of

FAR = 10 ** 59


def runs_of(widths, kept, place):
    """The runs of a signpost, by the words of point 46."""
    rows = rows_of(widths)
    runs = []
    for row in range(len(widths)):
        goals = [goal for goal in range(sum(widths)) if rows[goal] == row and goal != place and (place, goal) in kept]
        while goals:
            second = kept[(place, goals[0])][1]
            length = 1
            while length < len(goals) and kept[(place, goals[length])][1] == second:
                length += 1
            runs.append((row, second, goals[0], goals[length - 1]))
            goals = goals[length:]
    return tuple(runs)


class SignpostTest(GuideCase):
    """Point 46."""

    def test_attributes(self):
        left, right = all_books(*DIAMOND)
        post = Signpost(left, 0)
        self.same((0, ((1, 1, 1, 1), (1, 2, 2, 2), (2, 1, 3, 3))), (post.place, post.runs))
        self.same(((1, 1, 1, 1), (1, 2, 2, 2), (2, 2, 3, 3)), Signpost(right, 0).runs)
        self.same((2, ((2, 3, 3, 3),)), (Signpost(right, 2).place, Signpost(place=2, book=right).runs))
        self.same((3, ()), (Signpost(right, 3).place, Signpost(right, 3).runs))

    def test_goals(self):
        post = Signpost(fill(Net(*LADDER), [(0, 1, 4), (0, 3, 5, 6)]), 0)
        self.same([0, 1, 2, 3, 1, 3, 3], [post(goal) for goal in range(7)])
        self.same(3, post(goal=6))

    def test_a_run_of_several_goals(self):
        # From 0 by 1 to 3, 4 and 5, and by 2 to 6.
        net = Net([1, 2, 4], [(0, 1, 0), (0, 2, 0), (1, 3, 0), (1, 4, 0), (1, 5, 0), (2, 6, 0)])
        post = Signpost(fill(net), 0)
        self.same(((1, 1, 1, 1), (1, 2, 2, 2), (2, 1, 3, 5), (2, 2, 6, 6)), post.runs)
        self.same([1, 1, 1, 2], [post(goal) for goal in (3, 4, 5, 6)])

    def test_a_run_reaches_over_places_without_a_route(self):
        # No road leads to 4 and 5 between 3 and 6, and none to 2 and 7 at the ends of the row.
        net = Net([1, 1, 6], [(0, 1, 0), (1, 3, 0), (1, 6, 0)])
        post = Signpost(fill(net), 0)
        self.same(((1, 1, 1, 1), (2, 1, 3, 6)), post.runs)
        self.same([1, 1, 1, 1], [post(goal) for goal in (3, 4, 5, 6)])
        for goal in (2, 7):
            self.refused(NoRoute, {"start": 0, "goal": goal}, post, goal)

    def test_a_place_between_two_runs(self):
        net = Net([1, 2, 5], [(0, 1, 0), (0, 2, 0), (1, 3, 0), (1, 4, 0), (2, 6, 0)])
        post = Signpost(fill(net), 0)
        self.same(((1, 1, 1, 1), (1, 2, 2, 2), (2, 1, 3, 4), (2, 2, 6, 6)), post.runs)
        for goal in (5, 7):
            self.refused(NoRoute, {"start": 0, "goal": goal}, post, goal)

    def test_goals_without_a_run(self):
        book = fill(Net(*LADDER))
        for place, goals in ((1, (0, 2, 3, 5)), (4, (0, 1, 2, 3, 5)), (6, (0, 1, 2, 3, 4, 5))):
            for goal in goals + (7, -1, -2, place - 7, FAR, -FAR):
                self.refused(NoRoute, {"start": place, "goal": goal}, Signpost(book, place), goal)
            self.same(place, Signpost(book, place)(place))

    def test_nets_of_one_row(self):
        post = Signpost(fill(Net([3], [])), 1)
        self.same((), post.runs)
        self.same(1, post(1))
        for goal in (0, 2):
            self.refused(NoRoute, {"start": 1, "goal": goal}, post, goal)

    def test_against_slow_answers(self):
        rng = random.Random(46)
        for widths, roads in random_nets(4601, 60, most_rows=4, most_places=6):
            kept = random_routes_of_a_book(rng, widths, roads)
            book = fill(Net(widths, roads), [route for route in kept.values() if len(route) > 1])
            for place in range(sum(widths)):
                post, runs = Signpost(book, place), runs_of(widths, kept, place)
                self.same((place, runs), (post.place, post.runs))
                for one, two in zip(runs, runs[1:]):
                    self.assertTrue(one[0] < two[0] or (one[0] == two[0] and one[1] < two[1]))
                self.check_goals(post, runs, widths)

    def check_goals(self, post, runs, widths):
        """The answer for each goal, and for some integers that are no places."""
        rows = rows_of(widths)
        for goal in range(-3, sum(widths) + 3):
            seconds = [second for row, second, first, last in runs
                       if 0 <= goal < sum(widths) and rows[goal] == row and first <= goal <= last]
            if goal == post.place:
                self.same(goal, post(goal))
            elif seconds:
                self.same(seconds, [post(goal)])
            else:
                self.refused(NoRoute, {"start": post.place, "goal": goal}, post, goal)


if __name__ == "__main__":
    unittest.main()
