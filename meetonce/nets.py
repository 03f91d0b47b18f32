"""Nets: places in rows, and one-way roads from each row to the next one."""

from meetonce.errors import BadNet, NoRoad, RoadsCross


class Net:
    """A net whose roads lead from each row to the next one and do not cross.

    Beside what the interface lists, `least[goal][start]` is the least price of a route, or None.
    """

    def __init__(self, widths, roads):
        self.widths = tuple(widths)
        if not self.widths or min(self.widths) < 1:
            raise BadNet(-1)
        self.size = sum(self.widths)
        self._rows = _row_of_each_place(self.widths)
        self._firsts = _first_place_of_each_row(self.widths)
        listed = [(start, end, price) for start, end, price in roads]
        _check_roads(self._rows, listed)
        self.roads = tuple(sorted(listed))
        self._prices = {(start, end): price for start, end, price in self.roads}
        self._next = _others_by_place(self.size, [(start, end) for start, end, _ in self.roads])
        self._previous = _others_by_place(self.size, [(end, start) for start, end, _ in self.roads])
        self.least = tuple([_least_prices(self.size, self.roads, goal) for goal in range(self.size)])
        self.pairs = _pairs_in_filling_order(self._rows, self.least)

    def __iter__(self):
        return iter(self.roads)

    def __contains__(self, road):
        return road in self._prices

    def __eq__(self, other):
        return isinstance(other, Net) and self.widths == other.widths and self.roads == other.roads

    def row_of(self, place):
        """The row of a place."""
        return self._rows[place]

    def column_of(self, place):
        """The index of a place within its row."""
        return place - self._firsts[self._rows[place]]

    def places_of(self, row):
        """The list of the places of a row, from left to right."""
        first = self._firsts[row]
        return list(range(first, first + self.widths[row]))

    def next_places(self, place):
        """The ascending list of the ends of the roads that start at the place."""
        return list(self._next[place])

    def previous_places(self, place):
        """The ascending list of the starts of the roads that end at the place."""
        return list(self._previous[place])

    def price_of(self, start, end):
        """The price of the road, None if there is none, for any two integers."""
        return self._prices.get((start, end))

    def is_place(self, place):
        """True if the integer is a place of the net."""
        return 0 <= place < self.size

    def has_route(self, start, goal):
        """True if a route leads from the start to the goal, for any two integers."""
        return self.is_place(start) and self.is_place(goal) and self.least[goal][start] is not None

    def is_pair(self, start, goal):
        """True if the two integers are a pair of the net."""
        return start != goal and self.has_route(start, goal)


def _row_of_each_place(widths):
    return tuple([row for row, width in enumerate(widths) for _ in range(width)])


def _first_place_of_each_row(widths):
    firsts = [0]
    for width in widths[:-1]:
        firsts.append(firsts[-1] + width)
    return tuple(firsts)


def _others_by_place(size, steps):
    """For each place the list of the others of its steps `(place, other)`, in the order of the steps."""
    found = [[] for _ in range(size)]
    for place, other in steps:
        found[place].append(other)
    return found


def _check_roads(rows, roads):
    """Raise the error of the first wrong road; `rows` has the row of each place."""
    seen = set()
    for at, (start, end, _) in enumerate(roads):
        if not _can_be_road(rows, start, end) or (start, end) in seen:
            raise BadNet(at)
        crossed = _first_crossed(roads, at)
        if crossed is not None:
            raise RoadsCross(crossed, at)
        seen.add((start, end))


def _can_be_road(rows, start, end):
    size = len(rows)
    return 0 <= start < size and 0 <= end < size and rows[end] == rows[start] + 1


def _first_crossed(roads, at):
    """The smallest index of an earlier road that the road with the index `at` crosses, or None."""
    start, end, _ = roads[at]
    for index in range(at):
        other_start, other_end, _ = roads[index]
        # Of two roads that start in different rows the higher one has the greater start and the
        # greater end, so it cannot fulfil this: the rows need not be compared.
        if (other_start < start and other_end > end) or (other_start > start and other_end < end):
            return index
    return None


def _least_prices(size, roads, goal):
    """The least price from each place to the goal, None where no route leads to it."""
    table = [None] * size
    table[goal] = 0
    # From the last road backwards, all roads from a road's end have been seen before the road itself.
    for start, end, price in reversed(roads):
        if table[end] is not None:
            total = price + table[end]
            if table[start] is None or total < table[start]:
                table[start] = total
    return tuple(table)


def _pairs_in_filling_order(rows, least):
    # A route ascends, so the start of a pair is always smaller than its goal.
    found = [(rows[goal] - rows[start], start, goal)
             for goal, table in enumerate(least) for start in range(goal) if table[start] is not None]
    return tuple([(start, goal) for _, start, goal in sorted(found)])


def with_road(net, start, end, price):
    """The net in which the road from start to end has this price, added if it was not there."""
    return Net(net.widths, _roads_without(net, start, end) + [(start, end, price)])


def without_road(net, start, end):
    """The net without the road from start to end."""
    if (start, end) not in net:
        raise NoRoad(start, end)
    return Net(net.widths, _roads_without(net, start, end))


def _roads_without(net, start, end):
    return [road for road in net.roads if (road[0], road[1]) != (start, end)]
