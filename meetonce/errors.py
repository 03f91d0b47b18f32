"""The errors that the program raises, one class for each kind of failure."""


class GuideError(ValueError):
    """The base class of all errors of the program."""


class BadNet(GuideError):
    """The widths (`at` is -1) or the road with index `at` cannot stand in a net."""

    def __init__(self, at):
        GuideError.__init__(self, f"no net: the fault is at {at}")
        self.at = at


class RoadsCross(GuideError):
    """The road with index `second` crosses the earlier road with index `first`."""

    def __init__(self, first, second):
        GuideError.__init__(self, f"the roads with the indexes {first} and {second} cross")
        self.first = first
        self.second = second


class NoRoad(GuideError):
    """There is no such road."""

    def __init__(self, start, end):
        GuideError.__init__(self, f"there is no road from {start} to {end}")
        self.start = start
        self.end = end


class BadRoute(GuideError):
    """The list with the index `index` is no route: its entry with the index `at` is wrong."""

    def __init__(self, index, at):
        GuideError.__init__(self, f"list {index} is no route: the fault is at its entry {at}")
        self.index = index
        self.at = at


class NoRoute(GuideError):
    """No route leads from the start to the goal."""

    def __init__(self, start, goal):
        GuideError.__init__(self, f"no route leads from {start} to {goal}")
        self.start = start
        self.goal = goal


class BadText(GuideError):
    """The text is not of the right form: `line` is the number of its first wrong line."""

    def __init__(self, line):
        GuideError.__init__(self, f"line {line} of the text is wrong")
        self.line = line


class NotCheapest(GuideError):
    """The route with the index `index` is not cheapest; `cheaper` has a lower price."""

    def __init__(self, index, cheaper):
        GuideError.__init__(self, f"route {index} is not cheapest: {cheaper} has a lower price")
        self.index = index
        self.cheaper = cheaper


class Conflict(GuideError):
    """Two routes part at `split` and meet again at `meeting`."""

    def __init__(self, first, second, split, meeting):
        GuideError.__init__(self, f"routes {first} and {second} part at {split} and meet again at {meeting}")
        self.first = first
        self.second = second
        self.split = split
        self.meeting = meeting


class NotABook(GuideError):
    """The table's entry for `start` and `goal` is not that of a book."""

    def __init__(self, start, goal):
        GuideError.__init__(self, f"no book has this entry from {start} to {goal}")
        self.start = start
        self.goal = goal


class NotKept(GuideError):
    """The book does not keep the route with the index `index`."""

    def __init__(self, index):
        GuideError.__init__(self, f"the book does not keep route {index}")
        self.index = index


class NotAdmissible(GuideError):
    """The place may not be the second place of the route."""

    def __init__(self, place):
        GuideError.__init__(self, f"the place {place} is not admissible")
        self.place = place


class Forced(GuideError):
    """The wish with the index `index` settles the pair."""

    def __init__(self, index):
        GuideError.__init__(self, f"wish {index} allows no other place")
        self.index = index


class NoBooks(GuideError):
    """A list of books is empty."""

    def __init__(self):
        GuideError.__init__(self, "there are no books in the list")


class WrongNet(GuideError):
    """The book with the index `index` does not belong to the net."""

    def __init__(self, index):
        GuideError.__init__(self, f"book {index} is a book of another net")
        self.index = index


class NotOrdered(GuideError):
    """At this pair one route is not nowhere right of the other."""

    def __init__(self, start, goal):
        GuideError.__init__(self, f"the routes from {start} to {goal} are not in order")
        self.start = start
        self.goal = goal


class NoVersion(GuideError):
    """The relay has no such version."""

    def __init__(self, version):
        GuideError.__init__(self, f"there is no version {version}")
        self.version = version


class TooMany(GuideError):
    """There are `limit` or more."""

    def __init__(self, limit):
        GuideError.__init__(self, f"there are {limit} or more")
        self.limit = limit


class BadCuts(GuideError):
    """The cuts do not divide the net into bands."""

    def __init__(self):
        GuideError.__init__(self, "the cuts do not divide the net into one band for each book")


class NotThrough(GuideError):
    """The route does not lead from the first row to the last one."""

    def __init__(self):
        GuideError.__init__(self, "the route does not lead from the first row to the last one")


class NoWish(GuideError):
    """There is no wish with the index `index`."""

    def __init__(self, index):
        GuideError.__init__(self, f"there is no wish {index}")
        self.index = index


class NothingToUndo(GuideError):
    """No deed is in force."""

    def __init__(self):
        GuideError.__init__(self, "there is no deed to undo")


class NothingToRedo(GuideError):
    """No deed was undone."""

    def __init__(self):
        GuideError.__init__(self, "there is no deed to redo")
