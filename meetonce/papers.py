"""Papers: tuples that show facts about a net, so that anyone can look whether they are right."""

from meetonce.changes import losses
from meetonce.errors import BadRoute, Conflict, NoRoute, NotCheapest
from meetonce.intervals import interval_of
from meetonce.lots import best_lot, lot_holds
from meetonce.prices import check_route, is_cheapest, leftmost_route, price_table, route_price, table_shows, wrong_entry
from meetonce.routes import conflict, is_part
from meetonce.tables import judge, tables_of
from meetonce.wishes import check_wishes


def price_paper(net, route):
    """A paper that shows that the route is cheapest, or one with a cheaper route."""
    places = check_route(net, route)
    if is_cheapest(net, places):
        return ("cheapest", places, price_table(net, places[-1]))
    return ("cheaper", places, leftmost_route(net, places[0], places[-1]))


def wish_paper(net, wishes, route):
    """A paper that shows why the route can be kept beside the wishes, or why it cannot."""
    checked = check_wishes(net, wishes)
    places = check_route(net, route)
    if not is_cheapest(net, places):
        return price_paper(net, places)
    for wish in checked:
        where = conflict(wish, places)
        if where is not None:
            split, meeting = where
            return ("conflict", wish, places, split, meeting)
    return ("possible", checked, places, price_table(net, places[-1]))


def sure_paper(net, wishes, start, goal):
    """A paper that shows whether all books with the wishes keep the same route at the pair."""
    checked = check_wishes(net, wishes)
    if not net.is_pair(start, goal):
        raise NoRoute(start, goal)
    books = interval_of(net, checked)
    lower, upper = books.lower, books.upper
    first, second = lower.route(start, goal), upper.route(start, goal)
    if first == second:
        return ("sure", checked, lower.next_table(), upper.next_table(), first)
    return ("unsure", checked, first, second, price_table(net, goal))


def book_paper(book):
    """A paper with the tables of the book."""
    return ("book",) + tables_of(book)


def lot_paper(routes, worths):
    """A paper with a best lot of the routes."""
    lot, marks = best_lot(routes, worths)
    return ("lot", _as_tuples(routes), list(worths), lot, marks)


def loss_papers(book, net, wishes=()):
    """For each route that the book loses a paper with the reason."""
    lost = losses(book, net, wishes)
    return [("lost", _as_tuples(wishes), route, reason) for route, reason in lost]


def _as_tuples(routes):
    return tuple([tuple(route) for route in routes])


def _is_route(net, route):
    return wrong_entry(net, route) is None


def _are_routes(net, routes):
    return all([_is_route(net, route) for route in routes])


def _have_same_ends(first, second):
    return first[0] == second[0] and first[-1] == second[-1]


def _cheapest_holds(net, route, table):
    return table_shows(net, route, table)


def _cheaper_holds(net, route, other):
    if not _are_routes(net, [route, other]) or not _have_same_ends(route, other):
        return False
    return route_price(net, other) < route_price(net, route)


def _conflict_holds(net, first, second, split, meeting):
    if not _are_routes(net, [first, second]) or split >= meeting:
        return False
    if not all([place in route for route in (first, second) for place in (split, meeting)]):
        return False
    # Places of a route ascend, so there is a place behind the smaller one.
    return first[first.index(split) + 1] != second[second.index(split) + 1]


def _possible_holds(net, wishes, route, table):
    if not _are_routes(net, wishes) or not table_shows(net, route, table):
        return False
    return all([conflict(wish, route) is None for wish in wishes])


def _sure_holds(net, wishes, lower, upper, route):
    try:
        books = interval_of(net, wishes)
    except (BadRoute, NotCheapest, Conflict):
        return False
    if not _is_next_table(lower, books.lower) or not _is_next_table(upper, books.upper):
        return False
    return route in books.lower and route in books.upper


def _is_next_table(table, book):
    return [list(row) for row in table] == book.next_table()


def _unsure_holds(net, wishes, first, second, table):
    if not _possible_holds(net, wishes, first, table) or not _possible_holds(net, wishes, second, table):
        return False
    return tuple(first) != tuple(second) and _have_same_ends(first, second)


def _book_holds(net, next_table, previous_table, least_table):
    if not all([_is_for_all_pairs(net, table) for table in (next_table, previous_table, least_table)]):
        return False
    return judge(net, next_table, previous_table, least_table) is None


def _is_for_all_pairs(net, table):
    return len(table) == net.size and all([len(row) == net.size for row in table])


def _lot_holds(net, routes, worths, lot, marks):
    if not _are_routes(net, routes) or len(worths) != len(routes) or min(worths, default=0) < 0:
        return False
    # Routes with equally many places that start in one row pass the same rows.
    if not all([net.row_of(route[0]) == net.row_of(routes[0][0]) and len(route) == len(routes[0]) for route in routes]):
        return False
    return lot_holds(routes, worths, lot, marks)


def _lost_holds(net, wishes, route, reason):
    if not isinstance(reason, (list, tuple)) or len(reason) < 2:
        return False
    word, first = reason[0], reason[1]
    if word == "road" and len(reason) == 3:
        step = (first, reason[2])
        return is_part(step, route) and step not in net
    if word == "price" and len(reason) == 2:
        return isinstance(first, (list, tuple)) and _cheaper_holds(net, route, first)
    if word == "wish" and len(reason) == 2:
        return isinstance(first, int) and _wish_excludes(net, wishes, first, route)
    return False


def _wish_excludes(net, wishes, index, route):
    if index < 0 or index >= len(wishes) or not _are_routes(net, [route, wishes[index]]):
        return False
    return conflict(wishes[index], route) is not None


CHECKS = {
    "cheapest": _cheapest_holds,
    "cheaper": _cheaper_holds,
    "conflict": _conflict_holds,
    "possible": _possible_holds,
    "sure": _sure_holds,
    "unsure": _unsure_holds,
    "book": _book_holds,
    "lot": _lot_holds,
    "lost": _lost_holds,
}


def holds(net, paper):
    """True if the paper shows its fact."""
    check = CHECKS[paper[0]]
    entries = paper[1:]
    return check(net, *entries)
