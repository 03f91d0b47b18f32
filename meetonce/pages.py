"""Pages: the books of an interval, one after the other.

Here a page is given by its kept routes, a dict by their pairs that has the routes of one place as well: to find
the next page takes much less time in this way than to make a book of each page.
"""

from meetonce.books import admissible_places, book_of
from meetonce.errors import NotOrdered, TooMany, WrongNet
from meetonce.intervals import places_within
from meetonce.routes import nowhere_right


def next_page(interval, book):
    """The page of the interval that follows the book, None if the book is the last page."""
    _check_page(interval, book)
    kept = _kept_after(interval, _kept_by(book))
    return None if kept is None else book_of(book.net, list(kept.values()))


def _check_page(interval, book):
    if book.net != interval.lower.net:
        raise WrongNet(1)
    for at, (start, goal) in enumerate(book.net.pairs):
        route = book.routes[at]
        if not nowhere_right(interval.lower.routes[at], route) or not nowhere_right(route, interval.upper.routes[at]):
            raise NotOrdered(start, goal)


def _kept_by(book):
    """The kept routes of the book by their pairs, those of one place included."""
    routes = [(place,) for place in range(book.net.size)] + list(book.routes)
    return {(route[0], route[-1]): route for route in routes}


def _kept_after(interval, kept):
    """The kept routes of the page that follows, None if there is none."""
    pairs = interval.lower.net.pairs
    for at in reversed(range(len(pairs))):
        start, goal = pairs[at]
        later = [place for place in _allowed(interval, kept, start, goal) if place > kept[(start, goal)][1]]
        if later:
            return _first_kept_with(interval, kept, at, later[0])
    return None


def _allowed(interval, kept, start, goal):
    """The places that a page may take at the pair, if it keeps the same routes at all pairs before it."""
    return places_within(interval, start, goal, admissible_places(interval.lower.net, kept, start, goal))


def _first_kept_with(interval, kept, at, place):
    """The kept routes of the first page that takes the place at the pair with this index and is as before up to it."""
    net = interval.lower.net
    routes = {(one, one): (one,) for one in range(net.size)}
    for pair in net.pairs[:at]:
        routes[pair] = kept[pair]
    start, goal = net.pairs[at]
    routes[(start, goal)] = (start,) + kept[(place, goal)]
    for start, goal in net.pairs[at + 1:]:
        second = _allowed(interval, routes, start, goal)[0]
        routes[(start, goal)] = (start,) + routes[(second, goal)]
    return routes


def _kept_by_pages(interval):
    """The kept routes of each page, looked for when they are asked for."""
    kept = _kept_by(interval.lower)
    while kept is not None:
        yield kept
        kept = _kept_after(interval, kept)


def pages(interval):
    """All pages of the interval in order, each made when it is asked for."""
    for kept in _kept_by_pages(interval):
        yield book_of(interval.lower.net, list(kept.values()))


def count_pages(interval, *, limit=1000):
    """The number of the pages, `limit` if there are so many or more."""
    count = 0
    for _ in _kept_by_pages(interval):
        count += 1
        # Nothing is looked for behind the page with which the limit is reached.
        if count == limit:
            break
    return count


def page_number(interval, book, *, limit=1000):
    """The number of the pages before the book."""
    _check_page(interval, book)
    wanted = _kept_by(book)
    for number, kept in enumerate(_kept_by_pages(interval)):
        if kept == wanted:
            return number
        if number + 1 == limit:
            break
    raise TooMany(limit)
