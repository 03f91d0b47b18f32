"""The tables of a book, and a judge who looks at each entry and its neighbours only."""

from meetonce.prices import least_price


def tables_of(book):
    """The tables of the second places, of the last places but one and of the least prices."""
    net = book.net
    least_table = [[least_price(net, start, goal) for goal in range(net.size)] for start in range(net.size)]
    return (book.next_table(), book.previous_table(), least_table)


def judge(net, next_table, previous_table, least_table):
    """None if the three tables are those of a book, otherwise the first place and goal where they are wrong."""
    tables = (next_table, previous_table, least_table)
    for start in range(net.size):
        for goal in range(net.size):
            if not net.is_pair(start, goal) and not _is_empty(tables, start, goal):
                return (start, goal)
    for start, goal in net.pairs:
        if not _is_right(net, tables, start, goal):
            return (start, goal)
    return None


def _is_empty(tables, start, goal):
    """True if the entries are those of two places that are not a pair."""
    next_table, previous_table, least_table = tables
    least = 0 if start == goal else None
    return next_table[start][goal] is None and previous_table[start][goal] is None and least_table[start][goal] == least


def _is_right(net, tables, start, goal):
    """True if the entries of the pair pass all checks; those of the pairs before it have passed them."""
    second, last_but_one, least = [table[start][goal] for table in tables]
    if second is None or last_but_one is None or least is None:
        return False
    if (start, second) not in net or (last_but_one, goal) not in net:
        return False
    if net.row_of(goal) == net.row_of(start) + 1:
        return second == goal and last_but_one == start and least == net.price_of(start, goal)
    return _fits_its_parts(net, tables, start, goal) and _is_least(net, least, tables[2], start, goal)


def _fits_its_parts(net, tables, start, goal):
    """True if the entries agree with those without the first and without the last road of the route."""
    next_table, previous_table, least_table = tables
    second, last_but_one = next_table[start][goal], previous_table[start][goal]
    if not net.is_pair(second, goal) or not net.is_pair(start, last_but_one):
        return False
    if previous_table[second][goal] != last_but_one or next_table[start][last_but_one] != second:
        return False
    return least_table[start][goal] == net.price_of(start, second) + least_table[second][goal]


def _is_least(net, least, least_table, start, goal):
    """True if no road that starts at the start leads to the goal for less."""
    return all([least <= net.price_of(start, place) + least_table[place][goal]
                for place in net.next_places(start) if net.is_pair(place, goal)])
