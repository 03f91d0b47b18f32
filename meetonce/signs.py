"""Signposts: what a traveller who stands at one place has to know."""

from meetonce.errors import NoRoute


class Signpost:
    """A signpost at a place: for each run of goals in a row the next place."""

    def __init__(self, book, place):
        self.place = place
        self.runs = _runs_from(book, place)

    def __call__(self, goal):
        if goal == self.place:
            return self.place
        # Places are numbered row by row, so a run has no goals of other rows between its ends.
        for _, second, first, last in self.runs:
            if first <= goal <= last:
                return second
        raise NoRoute(self.place, goal)


def _runs_from(book, place):
    """All runs of the place, by row and then from left to right."""
    net = book.net
    runs = []
    for goal in range(place + 1, net.size):
        if net.is_pair(place, goal):
            row, second, first = net.row_of(goal), book.next_place(place, goal), goal
            if runs and runs[-1][:2] == (row, second):
                first = runs.pop()[2]
            runs.append((row, second, first, goal))
    return tuple(runs)
