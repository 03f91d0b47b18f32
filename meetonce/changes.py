"""Changes: a book carried over to a changed net, and a book that takes another place at one pair."""

from meetonce.books import check_kept
from meetonce.errors import Forced, NotAdmissible, WrongNet
from meetonce.filling import leftmost_that_keeps
from meetonce.wishes import check_wishes, reason_against


def amend(book, net, wishes=()):
    """The leftmost book of the net that keeps the wishes and all surviving routes of the given book."""
    checked = _check_change(book, net, wishes)
    surviving = [route for route, reason in _reasons(book, net, checked) if reason is None]
    return leftmost_that_keeps(net, list(checked) + surviving)


def losses(book, net, wishes=()):
    """The list of the routes of the book that do not survive, each with the reason."""
    checked = _check_change(book, net, wishes)
    return [(route, reason) for route, reason in _reasons(book, net, checked) if reason is not None]


def _check_change(book, net, wishes):
    """The tuple of the wishes, if the book can be carried over to the net beside them."""
    if book.net.widths != net.widths:
        raise WrongNet(0)
    return check_wishes(net, wishes)


def _reasons(book, net, wishes):
    """Each route of the book with the reason why it does not survive, or None."""
    awake = list(enumerate(wishes))
    return [(route, reason_against(net, awake, route)) for route in book.routes]


def turn(book, start, goal, place, *, wishes=()):
    """A book that takes another admissible place at the pair, and changes no other route than it must."""
    _check_turn(book, start, goal, place, wishes)
    if place == book.next_place(start, goal):
        return book
    candidate = (start,) + book.route(place, goal)
    others = [route for route in book.routes if start not in route or goal not in route]
    return leftmost_that_keeps(book.net, others + [candidate])


def _check_turn(book, start, goal, place, wishes):
    checked = check_wishes(book.net, wishes)
    check_kept(book, checked)
    # If there is no such pair, `admissible` raises NoRoute.
    if place not in book.admissible(start, goal):
        raise NotAdmissible(place)
    if place != book.next_place(start, goal):
        for index, wish in enumerate(checked):
            if start in wish and goal in wish:
                raise Forced(index)
