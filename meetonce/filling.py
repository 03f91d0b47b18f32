"""Filling: books that keep wishes, made pair by pair in filling order."""

from meetonce.books import admissible_places, book_of, check_kept
from meetonce.wishes import check_wishes


def fill(net, wishes=(), *, choices=()):
    """A book that keeps all wishes; the choices select among the admissible places."""
    checked = check_wishes(net, wishes)
    picks = Picks(choices)
    return filled(net, checked, lambda start, goal, places: picks.pick(places))


def choices_of(book, wishes=()):
    """The list of the choices that lead to the book."""
    checked = check_wishes(book.net, wishes)
    check_kept(book, checked)
    settled = wished_places(checked)
    choices = []
    for start, goal in book.net.pairs:
        places = book.admissible(start, goal)
        if (start, goal) not in settled and len(places) > 1:
            choices.append(places.index(book.next_place(start, goal)))
    return choices


class Picks:
    """The entries of a list of choices, which are used one after the other."""

    def __init__(self, choices):
        self._choices = tuple(choices)
        self._used = 0

    def pick(self, places):
        """The place that the next entry selects; it is the leftmost one when all entries are used."""
        if len(places) < 2 or self._used == len(self._choices):
            return places[0]
        choice = self._choices[self._used]
        self._used += 1
        return places[choice % len(places)]


def filled(net, wishes, choose):
    """The book that keeps the wishes, which fit together, and takes what is chosen everywhere else.

    `choose(start, goal, places)` returns one of the admissible places of the pair.
    """
    settled = wished_places(wishes)
    kept = {(place, place): (place,) for place in range(net.size)}
    for start, goal in net.pairs:
        if (start, goal) in settled:
            place = settled[(start, goal)]
        else:
            place = choose(start, goal, admissible_places(net, kept, start, goal))
        kept[(start, goal)] = (start,) + kept[(place, goal)]
    return book_of(net, list(kept.values()))


def leftmost_that_keeps(net, routes):
    """The leftmost book that keeps the routes, which are known to be cheapest and to fit together."""
    return filled(net, routes, lambda start, goal, places: places[0])


def wished_places(wishes):
    """The second place of the kept route for each pair with a wish through both places."""
    return {(wish[low], wish[high]): wish[low + 1]
            for wish in wishes for low in range(len(wish)) for high in range(low + 1, len(wish))}
