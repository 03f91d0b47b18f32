"""Pins: routes that no other book keeps all together."""

from meetonce.books import check_kept
from meetonce.changes import turn
from meetonce.filling import wished_places


def open_pairs(book):
    """The list of the pairs with two or more admissible places in the book, in filling order."""
    return [(start, goal) for start, goal in book.net.pairs if len(book.admissible(start, goal)) > 1]


def loose_pairs(book, routes):
    """The list of the open pairs whose route is not a part of any of the routes, in filling order."""
    check_kept(book, routes)
    # The book keeps the routes, so its route of a pair is a part of each of them that has both places.
    pinned = wished_places(routes)
    return [pair for pair in open_pairs(book) if pair not in pinned]


def pins(book, routes):
    """True if no other book keeps all the routes."""
    return len(loose_pairs(book, routes)) == 0


def another_book(book, routes):
    """A book that keeps the routes as well, and takes another place at the first loose pair; None if there is none."""
    loose = loose_pairs(book, routes)
    if not loose:
        return None
    start, goal = loose[0]
    own = book.next_place(start, goal)
    others = [place for place in book.admissible(start, goal) if place != own]
    return turn(book, start, goal, others[0])


def essence(book):
    """The tuple of the fewest routes that pin the book, in filling order."""
    routes = [book.route(start, goal) for start, goal in open_pairs(book)]
    # Every part of a route but the route itself lacks the first or the last place.
    inner = wished_places([part for route in routes for part in (route[1:], route[:-1])])
    return tuple([route for route in routes if (route[0], route[-1]) not in inner])
