"""Relays: tables that stand at the places of a net while letters with newer ones are under way."""

from meetonce.errors import NoRoute, NoVersion, WrongNet
from meetonce.order import join_of, meet_of


class Relay:
    """Books as versions 0, 1, 2 and so on, and the version that each place uses."""

    def __init__(self, book):
        self._books = [book]
        self._versions = [0] * book.net.size

    def issue(self, book):
        """Add the book as the next version, and return the number of this version."""
        if book.net.widths != self._books[0].net.widths:
            raise WrongNet(0)
        self._books.append(book)
        return self._newest()

    def _newest(self):
        return len(self._books) - 1

    def deliver(self, version, place):
        """Bring a version to a place; True if the place uses it from now on, False if it keeps its own."""
        if version < 0 or version > self._newest():
            raise NoVersion(version)
        if self._versions[place] >= version:
            return False
        self._versions[place] = version
        return True

    def version_at(self, place):
        """The version that the place uses."""
        return self._versions[place]

    def in_use(self):
        """The ascending list of the versions that some place uses."""
        return sorted(set(self._versions))

    def settled(self):
        """True if all places use the newest version."""
        return self.in_use() == [self._newest()]

    def next_place(self, place, goal):
        """The second place of the route from place to goal in the version that the place uses."""
        if not self._books[0].net.is_place(place):
            raise NoRoute(place, goal)
        return self._books[self._versions[place]].next_place(place, goal)

    def walk(self, start, goal):
        """The route of a traveller who asks for the next place at each place."""
        route = [start]
        place = self.next_place(start, goal)
        while place != route[-1]:
            route.append(place)
            place = self.next_place(place, goal)
        return tuple(route)

    def bounds(self, start, goal):
        """The routes from start to goal in the meet and in the join of all versions in use."""
        books = [self._books[version] for version in self.in_use()]
        return (meet_of(books).route(start, goal), join_of(books).route(start, goal))
