"""Changes: a book carried over to a changed net, and a book that takes another place at one pair."""

from meetonce.books import check_kept
from meetonce.errors import Forced, NotAdmissible, WrongNet
from meetonce.filling import leftmost_that_keeps, wished_places
from meetonce.prices import is_cheapest, wrong_entry
from meetonce.wishes import check_wishes, reason_against


def amend(book, net, wishes=()):
    """The leftmost book of the net that keeps the wishes and all surviving routes of the given book."""
    checked = _check_change(book, net, wishes)
    wished = wished_places(checked)
    surviving = [route for route in book.routes if _survives(net, wished, route)]
    return leftmost_that_keeps(net, list(checked) + surviving)


def losses(book, net, wishes=()):
    """The list of the routes of the book that do not survive, each with the reason."""
    checked = _check_change(book, net, wishes)
    wished = wished_places(checked)
    awake = list(enumerate(checked))
    return [(route, reason_against(net, awake, route)) for route in book.routes if not _survives(net, wished, route)]


def _check_change(book, net, wishes):
    """The tuple of the wishes, if the book can be carried over to the net beside them."""
    if book.net.widths != net.widths:
        raise WrongNet(0)
    return check_wishes(net, wishes)


def _survives(net, wished, route):
    """True if the route is a cheapest route of the net and conflicts with no wish.

    To go through all wishes for each route takes long, so the wishes are given by the second place of their part
    for each pair: a route conflicts with a wish exactly if it has another second place for one of these pairs.
    """
    if wrong_entry(net, route) is not None or not is_cheapest(net, route):
        return False
    own = wished_places([route])
    return all([wished.get(pair, own[pair]) == own[pair] for pair in own])


def turn(book, start, goal, place, *, wishes=()):
    """A book that takes another admissible place at the pair, and changes no other route than it must."""
    _check_turn(book, start, goal, place, wishes)
    if place == book.next_place(start, goal):
        return book
    candidate = (start,) + book.route(place, goal)
    others = [route for route in book.routes if start not in route or goal not in route]
    return leftmost_that_keeps(book.net, others + [candidate])


def _check_turn(book, start, goal, place, wishes):
    checked = check_wishes(book.net, wishes)
    check_kept(book, checked)
    # If there is no such pair, `admissible` raises NoRoute.
    if place not in book.admissible(start, goal):
        raise NotAdmissible(place)
    if place != book.next_place(start, goal):
        for index, wish in enumerate(checked):
            if start in wish and goal in wish:
                raise Forced(index)
