"""Books: one cheapest route for each pair of a net, such that every part of a kept route is kept."""

from meetonce.errors import NoRoute, NotABook, NotAdmissible, NotKept
from meetonce.prices import cheap_next_places


class Book:
    """A book of a net, made from the table of the second places of its routes."""

    def __init__(self, net, table):
        _check_empty_entries(net, table)
        self.net = net
        self._kept = _kept_routes(net, table)
        self.routes = tuple([self._kept[pair] for pair in net.pairs])

    def __iter__(self):
        return iter(self.routes)

    def __contains__(self, route):
        places = tuple(route)
        return len(places) > 0 and self._kept.get((places[0], places[-1])) == places

    def __eq__(self, other):
        return isinstance(other, Book) and self.net == other.net and self.routes == other.routes

    def route(self, start, goal):
        """The kept route, the place alone if the two places are equal."""
        if (start, goal) not in self._kept:
            raise NoRoute(start, goal)
        return self._kept[(start, goal)]

    def next_place(self, start, goal):
        """The second place of the kept route, the place itself if the two places are equal."""
        return start if self.net.is_place(start) and start == goal else self.route(start, goal)[1]

    def previous_place(self, start, goal):
        """The last place but one of the kept route, the place itself if the two places are equal."""
        return start if self.net.is_place(start) and start == goal else self.route(start, goal)[-2]

    def admissible(self, start, goal):
        """The ascending list of the admissible places of the pair."""
        if not self.net.is_pair(start, goal):
            raise NoRoute(start, goal)
        return admissible_places(self.net, self._kept, start, goal)

    def image(self, start, goal, place):
        """The image of a cheap next place of the pair."""
        return image_of(self._kept, start, goal, place)

    def next_table(self):
        """The table of the second places, None where there is no pair."""
        return self._table_of_places(1)

    def previous_table(self):
        """The table of the last places but one, None where there is no pair."""
        return self._table_of_places(-2)

    def _table_of_places(self, at):
        table = [[None] * self.net.size for _ in range(self.net.size)]
        for start, goal in self.net.pairs:
            table[start][goal] = self._kept[(start, goal)][at]
        return table


def _check_empty_entries(net, table):
    for start in range(net.size):
        for goal in range(net.size):
            if table[start][goal] is not None and not net.is_pair(start, goal):
                raise NotABook(start, goal)


def _kept_routes(net, table):
    """The routes of the table by their pairs, and those of one place; raise NotABook at the first wrong entry."""
    kept = {(place, place): (place,) for place in range(net.size)}
    for start, goal in net.pairs:
        place = table[start][goal]
        if place not in admissible_places(net, kept, start, goal):
            raise NotABook(start, goal)
        kept[(start, goal)] = (start,) + kept[(place, goal)]
    return kept


def admissible_places(net, kept, start, goal):
    """The ascending list of the admissible places of the pair.

    `kept` has the kept routes of all pairs with fewer rows, and those of one place.
    """
    return [place for place in cheap_next_places(net, start, goal)
            if image_of(kept, start, goal, place) == place]


def image_of(kept, start, goal, place):
    """The image of a cheap next place of the pair, with `kept` as in `admissible_places`."""
    if place == goal:
        return place
    before_goal = kept[(place, goal)][-2]
    return kept[(start, before_goal)][1]


def book_of(net, routes):
    """The book that keeps these routes; there is one for each pair, and those of one place do not matter."""
    table = [[None] * net.size for _ in range(net.size)]
    for route in routes:
        if len(route) > 1:
            table[route[0]][route[-1]] = route[1]
    return Book(net, table)


def check_kept(book, routes):
    """Raise NotKept for the first of the routes that the book does not keep."""
    for index, route in enumerate(routes):
        if route not in book:
            raise NotKept(index)


def images(book, start, goal):
    """The list of the cheap next places of the pair, each with its image."""
    if not book.net.is_pair(start, goal):
        raise NoRoute(start, goal)
    return [(place, book.image(start, goal, place)) for place in cheap_next_places(book.net, start, goal)]


def climb(book, start, goal, place):
    """The list from the place on in which each entry is followed by its image, up to one that is its own."""
    image_at = dict(images(book, start, goal))
    if place not in image_at:
        raise NotAdmissible(place)
    steps = [place]
    while image_at[steps[-1]] != steps[-1]:
        steps.append(image_at[steps[-1]])
    return steps
