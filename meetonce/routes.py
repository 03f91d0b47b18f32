"""Two routes side by side: what they share, and whether they part and meet again."""


def shared_places(first, second):
    """The tuple of the places that both routes have, in ascending order."""
    # The places of a route ascend, so those of the first one come in the right order.
    return tuple([place for place in first if place in second])


def conflict(first, second):
    """None if the two routes do not conflict, otherwise where they part and where they meet again."""
    shared = shared_places(first, second)
    for split, meeting in zip(shared, shared[1:]):
        if _place_after(first, split) != _place_after(second, split):
            return (split, meeting)
    return None


def _place_after(route, place):
    return route[route.index(place) + 1]


def is_part(part, route):
    """True if the entries of the part follow one another directly in the route, for any two lists."""
    wanted = tuple(part)
    places = tuple(route)
    length = len(wanted)
    if length == 0:
        return False
    return any([places[at:at + length] == wanted for at in range(len(places) - length + 1)])


def nowhere_right(first, second):
    """True if in no row the place of the first route is right of the place of the second one."""
    return all([left <= right for left, right in zip(first, second)])


def beside(first, second):
    """True if the first route is nowhere right of the second one and the two do not conflict."""
    return nowhere_right(first, second) and conflict(first, second) is None
