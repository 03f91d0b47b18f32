"""Books from left to right: the leftmost and the rightmost one, meets and joins."""

from meetonce.errors import NoBooks, WrongNet
from meetonce.filling import filled, leftmost_that_keeps
from meetonce.routes import nowhere_right
from meetonce.wishes import check_wishes


def is_left(first, second):
    """True if the first book is nowhere right of the second one."""
    check_nets([first, second])
    return lies_left(first, second)


def lies_left(first, second):
    """True if the first book is nowhere right of the second one; both are books of one net."""
    return all([nowhere_right(route, other) for route, other in zip(first.routes, second.routes)])


def check_nets(books):
    """Raise WrongNet for the first book whose net differs from that of the first book."""
    for index, book in enumerate(books):
        if book.net != books[0].net:
            raise WrongNet(index)


def leftmost(net, wishes=()):
    """The book that keeps the wishes and is nowhere right of any other one that keeps them."""
    return leftmost_that_keeps(net, check_wishes(net, wishes))


def rightmost(net, wishes=()):
    """The book that keeps the wishes and that no other one that keeps them is right of."""
    return filled(net, check_wishes(net, wishes), lambda start, goal, places: places[-1])


def meet_of(books):
    """The greatest book below all books of the list."""
    def rightmost_below_all(start, goal, places):
        bound = min([book.next_place(start, goal) for book in books])
        return [place for place in places if place <= bound][-1]

    return filled(_net_of_all(books), (), rightmost_below_all)


def join_of(books):
    """The least book above all books of the list."""
    def leftmost_above_all(start, goal, places):
        bound = max([book.next_place(start, goal) for book in books])
        return [place for place in places if place >= bound][0]

    return filled(_net_of_all(books), (), leftmost_above_all)


def _net_of_all(books):
    if not books:
        raise NoBooks()
    check_nets(books)
    return books[0].net
