"""Routes of a net and their prices."""

from meetonce.errors import BadRoute, NoRoute


def wrong_entry(net, route):
    """The index of the first entry that keeps the list from being a route, or None if it is one."""
    if not route or not net.is_place(route[0]):
        return 0
    for at in range(1, len(route)):
        if (route[at - 1], route[at]) not in net:
            return at
    return None


def check_route(net, route):
    """The route as a tuple."""
    at = wrong_entry(net, route)
    if at is not None:
        raise BadRoute(0, at)
    return tuple(route)


def route_price(net, route):
    """The sum of the prices of the roads of the route."""
    places = check_route(net, route)
    return sum([net.price_of(start, end) for start, end in zip(places, places[1:])])


def is_cheapest(net, route):
    """True if no route with the same start and the same goal has a lower price."""
    return route_price(net, route) == least_price(net, route[0], route[-1])


def least_price(net, start, goal):
    """The price of the cheapest routes from start to goal, None if there is no route."""
    if not net.has_route(start, goal):
        return None
    return net.least[goal][start]


def cheap_next_places(net, start, goal):
    """The ascending list of the second places of the cheapest routes from start to goal."""
    if not net.is_pair(start, goal):
        return []
    least = net.least[goal]
    return [place for place in net.next_places(start)
            if least[place] is not None and net.price_of(start, place) + least[place] == least[start]]


def leftmost_route(net, start, goal):
    """The cheapest route that takes the leftmost cheap next place at each place."""
    if not net.has_route(start, goal):
        raise NoRoute(start, goal)
    route = [start]
    while route[-1] != goal:
        route.append(cheap_next_places(net, route[-1], goal)[0])
    return tuple(route)


def price_table(net, goal):
    """The list of the least prices from each place to the goal, None where no route leads to it."""
    return list(net.least[goal])


def table_shows(net, route, table):
    """True if the table shows that the route is cheapest; any lists may be passed."""
    if wrong_entry(net, route) is not None or len(table) != net.size or table[route[-1]] != 0:
        return False
    if not all([_road_is_bounded(road, table) for road in net.roads]):
        return False
    return all([_road_is_exact(net, start, end, table) for start, end in zip(route, route[1:])])


def _road_is_bounded(road, table):
    start, end, price = road
    if table[end] is None:
        return True
    return table[start] is not None and table[start] <= price + table[end]


def _road_is_exact(net, start, end, table):
    if table[start] is None or table[end] is None:
        return False
    return table[start] == net.price_of(start, end) + table[end]
