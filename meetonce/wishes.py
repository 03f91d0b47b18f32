"""Wishes: routes that users want to be kept."""

from meetonce.errors import BadRoute, Conflict, NotCheapest
from meetonce.prices import is_cheapest, leftmost_route, wrong_entry
from meetonce.routes import conflict


def check_wishes(net, wishes):
    """The tuple of the wishes, if each is a cheapest route of the net and they fit together."""
    checked = []
    for index, wish in enumerate(wishes):
        at = wrong_entry(net, wish)
        if at is not None:
            raise BadRoute(index, at)
        route = tuple(wish)
        if not is_cheapest(net, route):
            raise NotCheapest(index, leftmost_route(net, route[0], route[-1]))
        for first, other in enumerate(checked):
            where = conflict(other, route)
            if where is not None:
                split, meeting = where
                raise Conflict(first, index, split, meeting)
        checked.append(route)
    return tuple(checked)


def wish_states(net, wishes):
    """For each wish None if it is awake, otherwise the reason why it is asleep."""
    states = []
    awake = []
    for index, wish in enumerate(wishes):
        reason = reason_against(net, awake, wish)
        if reason is None:
            awake.append((index, wish))
        states.append(reason)
    return states


def reason_against(net, awake, route):
    """Why the route cannot be kept beside the awake wishes, given as `(index, wish)`; None if it can.

    Each place of the route is a place of the net, in the row above the row of the place before.
    """
    at = wrong_entry(net, route)
    if at is not None:
        return ("road", route[at - 1], route[at])
    if not is_cheapest(net, route):
        return ("price", leftmost_route(net, route[0], route[-1]))
    for index, wish in awake:
        if conflict(wish, route) is not None:
            return ("wish", index)
    return None
