"""Regions: bands of rows, and the two sides of a through route, each a net of its own."""

from meetonce.books import book_of
from meetonce.errors import BadCuts, NotCheapest, NotKept, NotThrough, WrongNet
from meetonce.filling import leftmost_that_keeps
from meetonce.nets import Net
from meetonce.prices import check_route, is_cheapest, leftmost_route
from meetonce.renumbering import numbers_of, renumbered


def band_places(net, low, high):
    """The ascending list of the places of the rows from `low` to `high`."""
    return [place for row in range(low, high + 1) for place in net.places_of(row)]


def band(net, low, high):
    """The net of the rows from `low` to `high`."""
    return _net_of_places(net, band_places(net, low, high))


def band_book(book, low, high):
    """The book of the band that keeps the same routes as the book."""
    return _book_of_places(book, band_places(book.net, low, high))


def join_bands(net, cuts, books):
    """The leftmost book of the net that keeps all routes of the books of the bands between the cuts."""
    _check_cuts(net, cuts, books)
    routes = []
    for index, book in enumerate(books):
        places = band_places(net, cuts[index], cuts[index + 1])
        if book.net != _net_of_places(net, places):
            raise WrongNet(index)
        routes = routes + _routes_in_net(book, places)
    return leftmost_that_keeps(net, routes)


def _check_cuts(net, cuts, books):
    if len(cuts) < 2 or len(books) != len(cuts) - 1:
        raise BadCuts()
    if cuts[0] != 0 or cuts[-1] != len(net.widths) - 1:
        raise BadCuts()
    if not all([low < high for low, high in zip(cuts, cuts[1:])]):
        raise BadCuts()


def side_places(net, route, *, left=True):
    """The ascending list of the places of the left or of the right side of the through route."""
    divider = _check_divider(net, route)
    return [place for row, middle in enumerate(divider) for place in net.places_of(row)
            if place == middle or (place < middle) == left]


def _check_divider(net, route):
    """The route as a tuple, if it is a cheapest through route."""
    divider = check_route(net, route)
    # A route has one place in each row that it passes, so only a through route has so many.
    if len(divider) != len(net.widths):
        raise NotThrough()
    if not is_cheapest(net, divider):
        raise NotCheapest(0, leftmost_route(net, divider[0], divider[-1]))
    return divider


def side(net, route, *, left=True):
    """The net of the places of one side of the through route."""
    return _net_of_places(net, side_places(net, route, left=left))


def side_book(book, route, *, left=True):
    """The book of the side that keeps the same routes as the book."""
    places = side_places(book.net, route, left=left)
    if route not in book:
        raise NotKept(0)
    return _book_of_places(book, places)


def join_sides(net, route, left_book, right_book):
    """The leftmost book of the net that keeps all routes of a book of each side."""
    books = [left_book, right_book]
    places = [side_places(net, route, left=True), side_places(net, route, left=False)]
    for index, book in enumerate(books):
        if book.net != _net_of_places(net, places[index]):
            raise WrongNet(index)
    for index, book in enumerate(books):
        if renumbered(numbers_of(places[index]), route) not in book:
            raise NotKept(index)
    return leftmost_that_keeps(net, _routes_in_net(left_book, places[0]) + _routes_in_net(right_book, places[1]))


def _net_of_places(net, places):
    """The net of these places, numbered by their indexes, with the roads between them."""
    numbers = numbers_of(places)
    rows = [net.row_of(place) for place in places]
    widths = [rows.count(row) for row in sorted(set(rows))]
    return Net(widths, [(numbers[start], numbers[end], price) for start, end, price in net.roads
                        if start in numbers and end in numbers])


def _book_of_places(book, places):
    """The book of the net of these places that keeps the routes between them, none of which leaves them."""
    numbers = numbers_of(places)
    routes = [renumbered(numbers, route) for route in book.routes if route[0] in numbers and route[-1] in numbers]
    return book_of(_net_of_places(book.net, places), routes)


def _routes_in_net(book, places):
    """The routes of a book of the net of these places, with the places' own numbers."""
    return [renumbered(places, route) for route in book.routes]
