"""New numbers for places: the same places in another net."""


def numbers_of(places):
    """For each place its index in the list, which is its number in the other net."""
    return {place: number for number, place in enumerate(places)}


def renumbered(numbers, route):
    """The route with the new number of each of its places."""
    return tuple([numbers[place] for place in route])
