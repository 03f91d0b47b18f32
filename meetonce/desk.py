"""The desk: it serves the users of one net, deed by deed."""

from meetonce.changes import amend, turn
from meetonce.errors import Conflict, Forced, GuideError, NoRoad, NothingToRedo, NothingToUndo, NoWish
from meetonce.nets import with_road, without_road
from meetonce.order import leftmost
from meetonce.routes import conflict
from meetonce.wishes import check_wishes, wish_states


class Desk:
    """A net with its closed roads, the wishes and a book that keeps those that are awake."""

    def __init__(self, net):
        self.first_net = net
        self.net = net
        self.closed = ()
        self.wishes = ()
        self.awake = ()
        self.book = leftmost(net)
        self.done = ()
        self.undone = ()
        # For each deed of `done` what stood before it, so that it can be taken back.
        self._before = ()

    def states(self):
        """For each wish None if it is awake, otherwise the reason why it is asleep."""
        return wish_states(self.net, self.wishes)

    def wish(self, route):
        """Add a wish."""
        places = check_wishes(self.net, [route])[0]
        for index in self._awake_indexes():
            where = conflict(self.wishes[index], places)
            if where is not None:
                split, meeting = where
                raise Conflict(index, len(self.wishes), split, meeting)
        return self._amend(("wish", places), self.net, self.closed, self.wishes + (places,))

    def drop(self, index):
        """Remove a wish."""
        if index < 0 or index >= len(self.wishes):
            raise NoWish(index)
        wishes = self.wishes[:index] + self.wishes[index + 1:]
        return self._amend(("drop", index), self.net, self.closed, wishes)

    def close(self, start, end):
        """Close a road."""
        net = without_road(self.net, start, end)
        closed = sorted(self.closed + ((start, end, self.net.price_of(start, end)),))
        return self._amend(("close", start, end), net, tuple(closed), self.wishes)

    def reopen(self, start, end):
        """Open a closed road again, with the price that it had."""
        prices = [price for first, last, price in self.closed if (first, last) == (start, end)]
        if not prices:
            raise NoRoad(start, end)
        net = with_road(self.net, start, end, prices[0])
        closed = [road for road in self.closed if road[:2] != (start, end)]
        return self._amend(("reopen", start, end), net, tuple(closed), self.wishes)

    def reprice(self, start, end, price):
        """Give a road a new price."""
        if (start, end) not in self.net:
            raise NoRoad(start, end)
        net = with_road(self.net, start, end, price)
        return self._amend(("reprice", start, end, price), net, self.closed, self.wishes)

    def turn(self, start, goal, place):
        """Take another admissible place at one pair."""
        try:
            book = turn(self.book, start, goal, place, wishes=self.awake)
        except Forced as error:
            raise Forced(self._awake_indexes()[error.index]) from None
        return self._take_book(("turn", start, goal, place), book)

    def settle(self):
        """Take the leftmost book with the awake wishes."""
        return self._take_book(("settle",), leftmost(self.net, self.awake))

    def undo(self):
        """Take the last deed back."""
        if not self.done:
            raise NothingToUndo()
        former = self.book
        self._enter(self._before[-1])
        self._before = self._before[:-1]
        self.undone = self.done[-1:] + self.undone
        self.done = self.done[:-1]
        return _routes_not_in(former, self.book)

    def redo(self):
        """Do the deed again that was undone last."""
        if not self.undone:
            raise NothingToRedo()
        rest = self.undone[1:]
        lost = self._do(self.undone[0])
        self.undone = rest
        return lost

    def play(self, deeds):
        """Do all deeds in order, or none."""
        listed = [tuple(deed) for deed in deeds]
        state, done, undone, before = self._state(), self.done, self.undone, self._before
        former = self.book
        try:
            for deed in listed:
                self._do(deed)
        except GuideError:
            self._enter(state)
            self.done, self.undone, self._before = done, undone, before
            raise
        return _routes_not_in(former, self.book)

    def _do(self, deed):
        """Do a deed that is given as a tuple."""
        methods = {"wish": self.wish, "drop": self.drop, "close": self.close, "reopen": self.reopen,
                   "reprice": self.reprice, "turn": self.turn, "settle": self.settle}
        method = methods[deed[0]]
        entries = deed[1:]
        return method(*entries)

    def _awake_indexes(self):
        return [index for index, reason in enumerate(self.states()) if reason is None]

    def _amend(self, deed, net, closed, wishes):
        """Put the deed in force: these are the new net, closed roads and wishes, and the book follows them."""
        awake = tuple([wish for wish, reason in zip(wishes, wish_states(net, wishes)) if reason is None])
        return self._put_in_force(deed, (net, closed, wishes, awake, amend(self.book, net, awake)))

    def _take_book(self, deed, book):
        """Put the deed in force: it changes the book alone."""
        return self._put_in_force(deed, (self.net, self.closed, self.wishes, self.awake, book))

    def _put_in_force(self, deed, state):
        former = self.book
        self._before = self._before + (self._state(),)
        self._enter(state)
        self.done = self.done + (deed,)
        self.undone = ()
        return _routes_not_in(former, self.book)

    def _state(self):
        """What a deed changes, beside the lists of deeds."""
        return (self.net, self.closed, self.wishes, self.awake, self.book)

    def _enter(self, state):
        self.net, self.closed, self.wishes, self.awake, self.book = state


def _routes_not_in(former, book):
    """The list of the routes of the former book that the book does not keep."""
    return [route for route in former.routes if route not in book]
