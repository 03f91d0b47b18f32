"""Lots: selections of routes that lie side by side, and the one that is worth most."""

from meetonce.routes import beside


def best_lot(routes, worths):
    """The indexes of the routes of a lot with the greatest worth, and the marks of all routes."""
    listed = [tuple(route) for route in routes]
    if not listed:
        return ([], [])
    marks = _marks_of(listed, worths)
    last = marks.index(max(marks))
    return (sorted(_lot_up_to(listed, worths, marks, last)), marks)


def _comes_before(routes, first, second):
    """True if the route with the first index comes before the one with the second index."""
    if routes[first] == routes[second]:
        return first < second
    return beside(routes[first], routes[second])


def _marks_of(routes, worths):
    """The list of the marks of all routes."""
    marks = [0] * len(routes)
    done = []
    # A route that comes before another one is smaller as a tuple, or equal with a smaller index,
    # so in this order its mark is known when it is asked for.
    for _, index in sorted([(route, index) for index, route in enumerate(routes)]):
        before = [marks[other] for other in done if _comes_before(routes, other, index)]
        marks[index] = worths[index] + max(before, default=0)
        done.append(index)
    return marks


def _lot_up_to(routes, worths, marks, last):
    """The indexes of a lot whose rightmost route is the one with the index `last`, and whose worth is its mark."""
    lot = [last]
    rest = marks[last] - worths[last]
    while rest > 0:
        before = [index for index, mark in enumerate(marks) if mark == rest and _comes_before(routes, index, lot[-1])]
        lot.append(before[0])
        rest = rest - worths[before[0]]
    return lot


def lot_holds(routes, worths, lot, marks):
    """True if the lot is one, and the marks show that no lot is worth more; any lots and marks may be passed."""
    listed = [tuple(route) for route in routes]
    if not _is_lot(listed, lot) or not _are_marks(listed, worths, marks):
        return False
    return sum([worths[index] for index in lot]) == max(marks, default=0)


def _is_lot(routes, lot):
    if not all([0 <= index < len(routes) for index in lot]):
        return False
    if not all([first < second for first, second in zip(lot, lot[1:])]):
        return False
    # The list ascends, so each two of its entries are asked once.
    return all([_comes_before(routes, first, second) or _comes_before(routes, second, first)
                for first in lot for second in lot if first < second])


def _are_marks(routes, worths, marks):
    """True if no mark is too small."""
    if len(marks) != len(routes) or not all([worth <= mark for worth, mark in zip(worths, marks)]):
        return False
    indexes = range(len(routes))
    return all([marks[second] - worths[second] >= marks[first]
                for first in indexes for second in indexes if _comes_before(routes, first, second)])
