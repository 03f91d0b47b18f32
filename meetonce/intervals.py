"""Intervals: all books between a lower and an upper one."""

from meetonce.errors import NotOrdered, WrongNet
from meetonce.filling import Picks, filled
from meetonce.order import join_of, leftmost, lies_left, meet_of, rightmost
from meetonce.prices import check_route, is_cheapest
from meetonce.routes import conflict, nowhere_right
from meetonce.wishes import check_wishes


class Interval:
    """All books between the lower and the upper book, these two included."""

    def __init__(self, lower, upper):
        if lower.net != upper.net:
            raise WrongNet(1)
        for at, (start, goal) in enumerate(lower.net.pairs):
            if not nowhere_right(lower.routes[at], upper.routes[at]):
                raise NotOrdered(start, goal)
        self.lower = lower
        self.upper = upper

    def __contains__(self, book):
        return book.net == self.lower.net and lies_left(self.lower, book) and lies_left(book, self.upper)

    def __eq__(self, other):
        return isinstance(other, Interval) and self.lower == other.lower and self.upper == other.upper

    def sure_routes(self):
        """The tuple of the routes that all books of the interval keep, in filling order."""
        return tuple([route for route in self.lower.routes if route in self.upper])

    def single(self):
        """True if there is one book in the interval."""
        return self.lower == self.upper


def interval_of(net, wishes=()):
    """The interval of exactly the books that keep all wishes."""
    return Interval(leftmost(net, wishes), rightmost(net, wishes))


def between(interval, *, choices=()):
    """A book of the interval; the choices select among the allowed places."""
    picks = Picks(choices)
    return filled(interval.lower.net, (),
                  lambda start, goal, places: picks.pick(places_within(interval, start, goal, places)))


def places_within(interval, start, goal, places):
    """Those of the places that lie between the second places of the lower and the upper book."""
    low = interval.lower.next_place(start, goal)
    high = interval.upper.next_place(start, goal)
    return [place for place in places if low <= place <= high]


def clamp(interval, book):
    """The join of the lower book and of the meet of the given book and the upper book."""
    # For a book of another net `meet_of` raises WrongNet with just the index that is asked for.
    return join_of([interval.lower, meet_of([book, interval.upper])])


def common(first, second):
    """The interval of the books that are in both intervals."""
    # For intervals of two nets `join_of` raises WrongNet with just the index that is asked for.
    return Interval(join_of([first.lower, second.lower]), meet_of([first.upper, second.upper]))


def possible(net, wishes, route):
    """True if some book keeps all wishes and the route."""
    checked = check_wishes(net, wishes)
    places = check_route(net, route)
    return is_cheapest(net, places) and all([conflict(wish, places) is None for wish in checked])


def follows(net, wishes, route):
    """True if every book that keeps all wishes keeps the route."""
    books = interval_of(net, wishes)
    places = check_route(net, route)
    return places in books.lower and places in books.upper
