"""Mirrors: nets with left and right exchanged, and nets upside down."""

from meetonce.books import book_of
from meetonce.nets import Net
from meetonce.renumbering import numbers_of, renumbered


def mirrored(net):
    """The net with left and right exchanged."""
    numbers = _mirrored_numbers(net)
    return Net(net.widths, [(numbers[start], numbers[end], price) for start, end, price in net.roads])


def turned(net):
    """The net upside down."""
    numbers = _turned_numbers(net)
    return Net(net.widths[::-1], [(numbers[end], numbers[start], price) for start, end, price in net.roads])


def mirrored_route(net, route):
    """The route of the mirrored net that consists of the images of the places."""
    return renumbered(_mirrored_numbers(net), route)


def turned_route(net, route):
    """The route of the turned net that consists of the images of the places."""
    return renumbered(_turned_numbers(net), route)[::-1]


def mirrored_book(book):
    """The book of the mirrored net that keeps the images of the book's routes."""
    numbers = _mirrored_numbers(book.net)
    return book_of(mirrored(book.net), [renumbered(numbers, route) for route in book.routes])


def turned_book(book):
    """The book of the turned net that keeps the images of the book's routes."""
    numbers = _turned_numbers(book.net)
    return book_of(turned(book.net), [renumbered(numbers, route)[::-1] for route in book.routes])


def _mirrored_numbers(net):
    return numbers_of([place for row in range(len(net.widths)) for place in reversed(net.places_of(row))])


def _turned_numbers(net):
    return numbers_of([place for row in reversed(range(len(net.widths))) for place in net.places_of(row)])
