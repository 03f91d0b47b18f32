"""A plain model of the desk, from the words of points 64 to 68: each state is worked out anew from the first net."""

import copy

from meetonce.changes import amend, turn
from meetonce.errors import GuideError
from meetonce.nets import Net
from meetonce.order import leftmost
from tests.samples import cheapest_of, conflict_of

ATTRIBUTES = ("first_net", "net", "closed", "wishes", "awake", "book", "done", "undone")


class Refused(Exception):
    """A deed is refused; `told` has the name of the error and its attributes."""

    def __init__(self, name, **fields):
        Exception.__init__(self, name)
        self.told = (name, fields)


def told_by(error):
    """The name of an error and its attributes."""
    return (type(error).__name__, {name: value for name, value in vars(error).items()})


def first_wrong(prices, size, route):
    """The index of the first entry that keeps a list from being a route, or None."""
    if not route or not 0 <= route[0] < size:
        return 0
    wrong = [at for at in range(1, len(route)) if (route[at - 1], route[at]) not in prices]
    return wrong[0] if wrong else None


class State:
    """Everything that a deed may change, apart from the lists of deeds."""

    def __init__(self, net):
        self.widths = net.widths
        self.prices = {(start, end): price for start, end, price in net.roads}
        self.closed = {}
        self.wishes = []
        self.book = leftmost(net)

    def net(self):
        """The net as it is now."""
        return Net(self.widths, [(*ends, price) for ends, price in self.prices.items()])

    def reasons(self):
        """Point 22 for the wishes."""
        cheapest = cheapest_of(self.widths, self.net().roads)
        reasons = []
        for wish in self.wishes:
            gaps = [step for step in zip(wish, wish[1:]) if step not in self.prices]
            clashes = [at for at, reason in enumerate(reasons)
                       if reason is None and not gaps and conflict_of(self.wishes[at], wish)]
            if gaps:
                reasons.append(("road", *gaps[0]))
            elif wish not in cheapest[(wish[0], wish[-1])]:
                reasons.append(("price", cheapest[(wish[0], wish[-1])][0]))
            else:
                reasons.append(("wish", clashes[0]) if clashes else None)
        return reasons

    def awake(self):
        """The indexes of the awake wishes."""
        return [at for at, reason in enumerate(self.reasons()) if reason is None]

    def awake_wishes(self):
        """The awake wishes."""
        return tuple(self.wishes[at] for at in self.awake())

    def do(self, deed):
        """Do the deed and take the new book."""
        net = self.net()
        getattr(self, deed[0])(*deed[1:])
        if deed[0] == "turn":
            self.book = turn(self.book, *deed[1:], wishes=self.awake_wishes())
        elif deed[0] == "settle":
            self.book = leftmost(net, self.awake_wishes())
        else:
            self.book = amend(self.book, self.net(), self.awake_wishes())

    def wish(self, route):
        """Point 65, wish."""
        route = tuple(route)
        at = first_wrong(self.prices, sum(self.widths), route)
        if at is not None:
            raise Refused("BadRoute", index=0, at=at)
        best = cheapest_of(self.widths, self.net().roads)[(route[0], route[-1])]
        if route not in best:
            raise Refused("NotCheapest", index=0, cheaper=best[0])
        for at in self.awake():
            where = conflict_of(self.wishes[at], route)
            if where:
                raise Refused("Conflict", first=at, second=len(self.wishes), split=where[0], meeting=where[1])
        self.wishes.append(route)

    def drop(self, index):
        """Point 65, drop."""
        if index not in range(len(self.wishes)):
            raise Refused("NoWish", index=index)
        del self.wishes[index]

    def close(self, start, end):
        """Point 65, close."""
        self.need(self.prices, start, end)
        self.closed[(start, end)] = self.prices.pop((start, end))

    def reopen(self, start, end):
        """Point 65, reopen."""
        self.need(self.closed, start, end)
        self.prices[(start, end)] = self.closed.pop((start, end))

    def reprice(self, start, end, price):
        """Point 65, reprice."""
        self.need(self.prices, start, end)
        self.prices[(start, end)] = price

    def need(self, roads, start, end):
        """The road must be one of these."""
        if (start, end) not in roads:
            raise Refused("NoRoad", start=start, end=end)

    def turn(self, start, goal, place):
        """Point 65, turn."""
        if (start, goal) not in self.net().pairs:
            raise Refused("NoRoute", start=start, goal=goal)
        if place not in self.book.admissible(start, goal):
            raise Refused("NotAdmissible", place=place)
        forcing = [at for at in self.awake() if start in self.wishes[at] and goal in self.wishes[at]]
        if forcing and place != self.book.next_place(start, goal):
            raise Refused("Forced", index=forcing[0])

    def settle(self):
        """Point 65, settle."""


class DeskModel:
    """The attributes of a desk and what its calls return."""

    def __init__(self, net):
        self.first_net = net
        self.done = []
        self.undone = []
        self.known = {(): State(net)}

    def state(self):
        """The state in which the deeds of `done` leave the first net; it depends on nothing else."""
        for many in range(len(self.done) + 1):
            done = tuple(self.done[:many])
            if done not in self.known:
                self.known[done] = self.after(self.known[done[:-1]], done[-1])
        return self.known[tuple(self.done)]

    def after(self, state, deed):
        """The state behind a deed; the state before it stays as it is."""
        changed = copy.copy(state)
        changed.prices, changed.closed, changed.wishes = dict(state.prices), dict(state.closed), list(state.wishes)
        changed.do(deed)
        return changed

    def told(self):
        """All attributes of the desk, in the order of `ATTRIBUTES`."""
        state = self.state()
        closed = tuple(sorted((*ends, price) for ends, price in state.closed.items()))
        return [self.first_net, state.net(), closed, tuple(state.wishes), state.awake_wishes(), state.book,
                tuple(self.done), tuple(self.undone)]

    def lost(self, call):
        """The routes that a call loses."""
        former = self.state().book
        call()
        after = self.state().book
        return [route for route in former.routes if route not in after.routes]

    def do(self, deed):
        """One deed."""
        def change():
            self.after(self.state(), deed)
            self.done.append(tuple(tuple(entry) if isinstance(entry, list) else entry for entry in deed))
            self.undone = []
        return self.lost(change)

    def undo(self):
        """The last deed is taken back."""
        if not self.done:
            raise Refused("NothingToUndo")

        def change():
            self.undone.insert(0, self.done.pop())
        return self.lost(change)

    def redo(self):
        """The deed that was undone last is done again."""
        if not self.undone:
            raise Refused("NothingToRedo")

        def change():
            self.done.append(self.undone.pop(0))
        return self.lost(change)

    def play(self, deeds):
        """All deeds or none."""
        before = (list(self.done), list(self.undone))

        def change():
            try:
                for deed in deeds:
                    self.do(deed)
            except Refused:
                self.done, self.undone = before
                raise
        return self.lost(change)


def attributes(desk):
    """All attributes of a desk."""
    return [getattr(desk, name) for name in ATTRIBUTES]


def outcome(call, *values):
    """What a call of a desk or of its model returns, or what its error tells."""
    try:
        return call(*values)
    except Refused as refused:
        return refused.told
    except GuideError as error:
        return told_by(error)


def do_on(desk, deed):
    """One deed by its method, what it returns or what its error tells."""
    return outcome(getattr(desk, deed[0]), *deed[1:])


