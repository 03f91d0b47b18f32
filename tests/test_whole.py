"""The whole interface at random: parameters by their names, no error but those that the interface lists, no changes."""

import copy
import importlib
import random
import unittest

from meetonce.books import Book
from meetonce.desk import Desk
from meetonce.errors import GuideError
from meetonce.intervals import Interval, interval_of
from meetonce.journal import desk_text
from meetonce.lots import best_lot
from meetonce.nets import Net, with_road, without_road
from meetonce.nettext import net_text
from meetonce.order import join_of, leftmost, meet_of, rightmost
from meetonce.papers import book_paper, price_paper, sure_paper, wish_paper
from meetonce.prices import price_table
from meetonce.regions import band, side
from meetonce.tables import tables_of
from tests.copies import facts
from tests.desk_model import attributes
from tests.samples import LADDER, book_from, routes_of, small_nets, some_parts
from tests.test_interface import FUNCTIONS

FAR = 10 ** 59
WISHES = ("BadRoute", "NotCheapest", "Conflict")
# What the interface says that the functions raise; the others raise nothing.
RAISED = {
    "nets.with_road": ("BadNet", "RoadsCross"), "nets.without_road": ("NoRoad",),
    "prices.check_route": ("BadRoute",), "prices.route_price": ("BadRoute",), "prices.is_cheapest": ("BadRoute",),
    "prices.leftmost_route": ("NoRoute",), "nettext.read_net": ("BadText", "BadNet", "RoadsCross"),
    "wishes.check_wishes": WISHES, "books.images": ("NoRoute",), "books.climb": ("NoRoute", "NotAdmissible"),
    "filling.fill": WISHES, "filling.choices_of": WISHES + ("NotKept",), "order.is_left": ("WrongNet",),
    "order.leftmost": WISHES, "order.rightmost": WISHES, "order.meet_of": ("NoBooks", "WrongNet"),
    "order.join_of": ("NoBooks", "WrongNet"), "intervals.interval_of": WISHES, "intervals.clamp": ("WrongNet",),
    "intervals.common": ("WrongNet", "NotOrdered"), "intervals.possible": WISHES, "intervals.follows": WISHES,
    "changes.amend": ("WrongNet",) + WISHES, "changes.losses": ("WrongNet",) + WISHES,
    "changes.turn": WISHES + ("NotKept", "NoRoute", "NotAdmissible", "Forced"),
    "pins.loose_pairs": ("NotKept",), "pins.pins": ("NotKept",), "pins.another_book": ("NotKept",),
    "pages.next_page": ("WrongNet", "NotOrdered"), "pages.page_number": ("WrongNet", "NotOrdered", "TooMany"),
    "regions.join_bands": ("BadCuts", "WrongNet"),
    "regions.side_places": ("BadRoute", "NotThrough", "NotCheapest"),
    "regions.side": ("BadRoute", "NotThrough", "NotCheapest"),
    "regions.side_book": ("BadRoute", "NotThrough", "NotCheapest", "NotKept"),
    "regions.join_sides": ("BadRoute", "NotThrough", "NotCheapest", "WrongNet", "NotKept"),
    "papers.price_paper": ("BadRoute",), "papers.wish_paper": WISHES, "papers.sure_paper": WISHES + ("NoRoute",),
    "papers.loss_papers": ("WrongNet",) + WISHES, "journal.read_deed": ("BadText",),
    "journal.read_desk": ("BadText", "BadNet", "RoadsCross"),
    "Net": ("BadNet", "RoadsCross"), "Book": ("NotABook",), "Interval": ("WrongNet", "NotOrdered"),
    "Book.route": ("NoRoute",), "Book.next_place": ("NoRoute",), "Book.previous_place": ("NoRoute",),
    "Book.admissible": ("NoRoute",), "Signpost.__call__": ("NoRoute",), "Relay.issue": ("WrongNet",),
    "Relay.deliver": ("NoVersion",), "Relay.next_place": ("NoRoute",), "Relay.walk": ("NoRoute",),
    "Relay.bounds": ("NoRoute", "WrongNet"),
    "Desk.wish": WISHES, "Desk.drop": ("NoWish",), "Desk.close": ("NoRoad",), "Desk.reopen": ("NoRoad",),
    "Desk.reprice": ("NoRoad",), "Desk.turn": ("NoRoute", "NotAdmissible", "Forced"),
    "Desk.undo": ("NothingToUndo",), "Desk.redo": ("NothingToRedo",),
    "Desk.play": WISHES + ("NoWish", "NoRoad", "NoRoute", "NotAdmissible", "Forced"),
}
CROSSED = "net\nrow 2\nrow 2\nroad 0 3 1\nroad 1 2 1"
# The functions whose integers need not be places: a point raises an error for those that are none.
ANY_INTEGERS = ("BadNet", "NoRoad", "NoRoute", "NotAdmissible")
METHODS = {
    "Book": {"route": ("start", "goal"), "next_place": ("start", "goal"), "previous_place": ("start", "goal"),
             "admissible": ("start", "goal"), "next_table": (), "previous_table": ()},
    "Net": {"row_of": ("place",), "column_of": ("place",), "places_of": ("row",), "next_places": ("place",),
            "previous_places": ("place",), "price_of": ("start", "end")},
    "Interval": {"sure_routes": (), "single": ()}, "Signpost": {"__call__": ("goal",)},
    "Relay": {"issue": ("book",), "deliver": ("version", "place"), "version_at": ("place",), "in_use": (),
              "settled": (), "next_place": ("place", "goal"), "walk": ("start", "goal"), "bounds": ("start", "goal")},
    "Desk": {"states": (), "wish": ("route",), "drop": ("index",), "close": ("start", "end"),
             "reopen": ("start", "end"), "reprice": ("start", "end", "price"), "turn": ("start", "goal", "place"),
             "settle": (), "undo": (), "redo": (), "play": ("deeds",)},
}


class Values:
    """Random values for the parameters of the interface, around one net."""

    def __init__(self, rng, widths, roads, books):
        self.rng = rng
        self.net_itself = Net(widths, roads)
        self.roads = list(roads)
        self.books = [book_from(self.net_itself, routes) for routes in books]
        self.every = [route for routes in routes_of(widths, roads).values() for route in routes]
        self.any_integers = False

    def value(self, name):
        """A value for the parameter with this name."""
        method = {"first": "route", "second": "route", "part": "route", "end": "place", "lower": "book",
                  "upper": "book",
                  "left_book": "book", "right_book": "book", "start": "place", "goal": "place"}.get(name, name)
        return getattr(self, method)()

    def listed(self, value):
        """The value as a list or as a tuple."""
        return self.rng.choice([list, tuple])(value)

    def net(self):
        """The net, or one with one road less or another price, or one of other widths."""
        kind, road = self.rng.random(), self.rng.choice(self.roads)
        if kind < 0.7:
            return self.net_itself
        if kind < 0.8:
            return without_road(self.net_itself, road[0], road[1])
        return with_road(self.net_itself, road[0], road[1], self.rng.randint(-1, 2)) if kind < 0.95 else Net([1, 1], [])

    def own_net(self):
        """The net itself."""
        return self.net_itself

    def book(self):
        """A book of the net, seldom one of another net."""
        return self.rng.choice(self.books) if self.rng.random() < 0.85 else leftmost(self.net())

    def own_book(self):
        """A book of the net itself."""
        return self.rng.choice(self.books)

    def interval(self):
        """An interval, nearly always of the net itself."""
        if self.rng.random() < 0.1:
            return interval_of(self.net())
        some = [self.rng.choice(self.books) for _ in range(2)]
        return Interval(meet_of(some), join_of(some))

    def place(self):
        """A place, or any integer where this is allowed."""
        if self.any_integers and self.rng.random() < 0.15:
            return self.rng.choice([-1, -2, FAR, -FAR, self.net_itself.size])
        return self.rng.randrange(self.net_itself.size)

    def row(self):
        """A row."""
        return self.rng.randrange(len(self.net_itself.widths))

    def route(self):
        """A route, seldom a list that is none."""
        route = list(self.rng.choice(self.every))
        if self.rng.random() < 0.2:
            at = self.rng.randint(0, len(route))
            route[at:at + 1] = [self.rng.choice([-1, FAR, self.net_itself.size, 0])] * self.rng.randint(0, 1)
        return self.listed(route)

    def wishes(self):
        """Wishes that fit together, wishes of two books, or any routes."""
        found = some_parts(self.rng, self.rng.choice(self.books).routes)
        kind = self.rng.random()
        if kind < 0.3:
            found += [self.route() for _ in range(self.rng.randint(0, 2))]
        elif kind < 0.6:
            found += [self.rng.choice(self.own_book().routes[-4:]) for _ in range(2)]
        return self.listed(found)

    def routes(self):
        """Routes that a book may keep."""
        return self.wishes()

    def choices(self):
        """Any choices."""
        return self.listed([self.rng.randint(0, 9) for _ in range(self.rng.randint(0, 6))])

    def some_books(self):
        """A list of books."""
        return self.listed([self.book() for _ in range(self.rng.randint(0, 3))])

    def price(self):
        """A price."""
        return self.rng.choice([0, 0, 1, -1, 1000000, -FAR])

    def limit(self):
        """A limit."""
        return self.rng.choice([1, 2, 5, 1000])

    def left(self):
        """One of the sides."""
        return self.rng.choice([True, False])

    def table(self):
        """A table for one goal."""
        table = price_table(self.net_itself, self.rng.randrange(self.net_itself.size))
        if self.rng.random() < 0.3:
            table[self.rng.randrange(len(table))] = self.rng.choice([None, 0, FAR])
        return self.listed(table)

    def next_table(self, at=0):
        """A table for all pairs, perhaps with a wrong entry."""
        table = tables_of(self.own_book())[at]
        if self.rng.random() < 0.3:
            table[self.rng.randrange(len(table))][self.rng.randrange(len(table))] = self.rng.choice([None, 0, FAR, 1])
        return self.listed([self.listed(row) for row in table])

    def previous_table(self):
        """A table for all pairs."""
        return self.next_table(1)

    def least_table(self):
        """A table for all pairs."""
        return self.next_table(2)

    def spoiled(self, text):
        """The text, perhaps with one change."""
        if self.rng.random() < 0.5:
            return text
        at = self.rng.randrange(len(text))
        return text[:at] + self.rng.choice(["", "0", "-", " ", "\n", "9",
                                            "row 1\n"]) + text[at + self.rng.randint(0, 1):]

    def text(self):
        """The text of a net."""
        if self.rng.random() < 0.1:
            return CROSSED
        return self.spoiled(net_text(self.net()))

    def desk_text(self):
        """The text of a desk."""
        if self.rng.random() < 0.1:
            return f"desk\n{CROSSED}\ndone 0\nundone 0"
        return self.spoiled(desk_text(self.desk()))

    def line(self):
        """The line of a deed."""
        return self.spoiled(self.rng.choice(["wish 0 2", "drop 0", "close 0 1", "reprice 0 1 -4", "turn 0 3 1",
                                             "settle"]))

    def deed(self):
        """A deed."""
        if self.rng.random() < 0.3:
            return ("wish", self.rng.choice(self.own_book().routes[-4:]))
        word = self.rng.choice(["wish", "drop", "close", "reopen", "reprice", "turn", "settle"])
        names = METHODS["Desk"][word]
        return (word, *[self.value(name) for name in names])

    def deeds(self):
        """Some deeds."""
        return self.listed([self.listed(self.deed()) for _ in range(self.rng.randint(0, 3))])

    def desk(self):
        """A desk with some done and some undone deeds."""
        desk = Desk(self.net_itself)
        for _ in range(self.rng.randint(0, 8)):
            deed = self.deed()
            try:
                getattr(desk, deed[0])(*deed[1:])
                if self.rng.random() < 0.3:
                    desk.undo()
            except GuideError:
                pass
        return desk

    def index(self):
        """An index of a wish, or any integer."""
        return self.rng.choice([0, 0, 1, 2, -1, FAR])

    def low(self):
        """The lowest row of a band."""
        return self.rng.randint(0, len(self.net_itself.widths) // 2)

    def high(self):
        """The highest row of a band."""
        return self.rng.randint(len(self.net_itself.widths) // 2, len(self.net_itself.widths) - 1)

    def version(self):
        """A version, or any integer."""
        return self.rng.choice([0, 0, 1, 1, 2, -1, FAR])

    def paper(self):
        """A paper of the net."""
        net = self.net_itself
        found = [price_paper(net, self.rng.choice(self.every)), book_paper(self.own_book()),
                 wish_paper(net, [], self.rng.choice(self.every)),
                 ("lost", self.wishes(), self.route(), self.rng.choice([("wish", self.index()), ("price", self.route()),
                                                                        ("road", self.index(), self.index())])),
                 ("lot", self.wishes(), self.choices(), self.choices(), self.choices()),
                 ("cheapest", self.route(), self.table()), ("possible", self.wishes(), self.route(), self.table()),
                 ("conflict", self.route(), self.route(), self.index(), self.index()),
                 ("sure", self.wishes(), self.next_table(), self.next_table(), self.route())]
        if net.pairs:
            found.append(sure_paper(net, [], *self.rng.choice(net.pairs)))
        return self.rng.choice(found)


class WholeTest(unittest.TestCase):
    """The interface, called at random."""

    def call(self, values, name, call, arguments):
        """Call it by the names of its parameters; nothing is changed, and no error comes that is not listed."""
        before = {key: told(value) for key, value in arguments.items()}
        try:
            answer = told(call(**arguments))
        except GuideError as error:
            answer = type(error).__name__
            self.assertIn(answer, RAISED.get(name, ()), (name, arguments))
            self.seen.setdefault(name, set()).add(answer)
        self.assertEqual(before, {key: told(value) for key, value in arguments.items()}, name)
        return answer

    def setUp(self):
        self.seen = {}

    def arguments_of(self, values, name, parameters):
        """Values for the parameters of a function."""
        special = {
            "routes.nowhere_right": self.two_alike, "routes.beside": self.two_alike, "routes.conflict": self.two_alike,
            "routes.shared_places": self.two_alike, "wishes.wish_states": self.any_lists,
            "order.is_left": lambda each: {"first": each.book(), "second": each.book()},
            "intervals.common": lambda each: {"first": each.interval(), "second": each.interval()},
            "order.meet_of": lambda each: {"books": each.some_books()},
            "order.join_of": lambda each: {"books": each.some_books()},
            "lots.best_lot": self.lot, "papers.lot_paper": self.lot, "lots.lot_holds": self.lot_and_marks,
            "mirrors.mirrored_route": self.right_route, "mirrors.turned_route": self.right_route,
            "regions.join_bands": self.bands, "regions.join_sides": self.sides,
            "regions.side_book": lambda each: {"book": each.own_book(), "route": self.divider(each),
                                               "left": each.left()},
            "regions.side": lambda each: {"net": each.own_net(), "route": self.divider(each), "left": each.left()},
            "regions.side_places": lambda each: {"net": each.own_net(), "route": self.divider(each),
                                                 "left": each.left()},
            "journal.read_desk": lambda each: {"text": each.desk_text()}, "changes.turn": self.turn,
        }
        if name in special:
            return special[name](values)
        found = {}
        for parameter in parameters:
            own = name not in ("changes.amend", "changes.losses", "papers.loss_papers") and parameter == "net" or \
                parameter == "book" and name.split(".")[0] in ("books", "tables", "pins", "mirrors", "regions",
                                                               "papers")
            found[parameter] = values.value(f"own_{parameter}" if own else parameter)
        return found

    def two_alike(self, values):
        """Two routes of the net that pass the same rows."""
        first = values.rng.choice(values.every)
        row_of = values.net_itself.row_of
        alike = [route for route in values.every if len(route) == len(first) and row_of(route[0]) == row_of(first[0])]
        return {"first": values.listed(first), "second": values.listed(values.rng.choice(alike))}

    def any_lists(self, values):
        """A net and lists of places in ascending rows."""
        net, rng = values.net_itself, values.rng
        wishes = []
        for _ in range(rng.randint(0, 5)):
            low = rng.randrange(len(net.widths))
            high = rng.randrange(low, len(net.widths))
            wishes.append(values.listed([rng.choice(net.places_of(row)) for row in range(low, high + 1)]))
        return {"net": net, "wishes": values.listed(wishes)}

    def lot(self, values):
        """Routes that pass the same rows, and their worths."""
        routes = [self.two_alike(values)["first"]]
        length, row = len(routes[0]), values.net_itself.row_of(routes[0][0])
        routes += [values.listed(route) for route in values.every
                   if len(route) == length and values.net_itself.row_of(route[0]) == row][:5]
        return {"routes": values.listed(routes), "worths": values.listed([values.rng.randint(0, 5) for _ in routes])}

    def lot_and_marks(self, values):
        """The same with a lot and marks."""
        found = self.lot(values)
        lot, marks = best_lot(**found)
        if values.rng.random() < 0.5:
            lot, marks = values.choices(), values.choices()
        return {**found, "lot": values.listed(lot), "marks": values.listed(marks)}

    def right_route(self, values):
        """A net and a route of it."""
        return {"net": values.net_itself, "route": values.listed(values.rng.choice(values.every))}

    def divider(self, values):
        """Often a through route."""
        rows = len(values.net_itself.widths)
        through = [route for route in values.every if len(route) == rows]
        return values.listed(values.rng.choice(through)) if through and values.rng.random() < 0.6 else values.route()

    def turn(self, values):
        """A turn that is often right, or forced by a wish."""
        rng, book = values.rng, values.own_book()
        wishes = values.wishes()
        start, goal, place = [values.value("place") for _ in range(3)]
        if rng.random() < 0.7:
            start, goal = rng.choice(book.net.pairs)
            place = rng.choice(book.admissible(start, goal))
        if rng.random() < 0.5:
            wishes = values.listed([values.listed(book.route(*rng.choice(book.net.pairs))) for _ in range(2)] +
                                   [rng.choice(book.routes[-3:])])
        return {"book": book, "start": start, "goal": goal, "place": place, "wishes": wishes}

    def bands(self, values):
        """Cuts and books of bands, most of them right."""
        net, rng = values.net_itself, values.rng
        last = len(net.widths) - 1
        cuts = [0] + [row for row in range(1, last) if rng.random() < 0.4] + [last]
        books = [leftmost(band(net, low, high)) for low, high in zip(cuts, cuts[1:])]
        if rng.random() < 0.2:
            cuts[rng.randrange(len(cuts))] = rng.choice([-1, 0, 1, FAR])
        if rng.random() < 0.2 and books:
            books[rng.randrange(len(books))] = values.book()
        return {"net": net, "cuts": values.listed(cuts), "books": values.listed(books)}

    def sides(self, values):
        """A route and a book of each side, most of them right."""
        net, route = values.net_itself, self.divider(values)
        books = [values.book(), values.book()]
        try:
            nets = [side(net, route, left=True), side(net, route, left=False)]
            books = [values.rng.choice([leftmost, rightmost])(each) if values.rng.random() < 0.9 else book
                     for each, book in zip(nets, books)]
        except GuideError:
            pass
        return {"net": net, "route": route, "left_book": books[0], "right_book": books[1]}

    def test_functions(self):
        rng = random.Random(1)
        nets = [(widths, roads, books) for widths, roads, books in small_nets(101, 10, most=40)]
        for widths, roads, books in nets + [(*LADDER, [book.routes for book in ladder_books()])] * 5:
            values = Values(rng, widths, roads, books)
            for module, functions in FUNCTIONS.items():
                for function, listed in functions.items():
                    name = f"{module}.{function}"
                    call = getattr(importlib.import_module(f"meetonce.{module}"), function)
                    names = [part.split("=")[0].strip() for part in listed.split(",") if part.strip() != "*"]
                    values.any_integers = any(kind in ANY_INTEGERS for kind in RAISED.get(name, ()))
                    for _ in range(12):
                        arguments = self.arguments_of(values, name, names)
                        self.assertEqual(sorted(names), sorted(arguments), name)
                        answer = self.call(values, name, call, arguments)
                        self.assertEqual(answer, self.call(values, name, call, arguments), name)
        self.assertLess(len(self.missing(lambda name: name[0].islower())), 10)

    def test_classes_and_methods(self):
        rng = random.Random(2)
        nets = [(widths, roads, books) for widths, roads, books in small_nets(102, 12, most=40)]
        for widths, roads, books in nets + [(*LADDER, [book.routes for book in ladder_books()])] * 6:
            values = Values(rng, widths, roads, books)
            for _ in range(6):
                self.check_classes(values)
                for kind, thing in self.objects(values).items():
                    for _ in range(4):
                        self.check_methods(values, kind, thing)
        self.assertLess(len(self.missing(lambda name: name[0].isupper())), 5)

    def missing(self, wanted):
        """The errors that are listed and were not seen; if there are many, the calls above are too tame."""
        return [(name, error) for name, listed in RAISED.items() if wanted(name)
                for error in listed if error not in self.seen.get(name, ())]

    def check_classes(self, values):
        """Create objects by the names of the parameters."""
        rng, net = values.rng, values.net_itself
        roads = [list(road) for road in net.roads] + [[rng.randrange(-1, net.size + 1), rng.randrange(net.size), 0]]
        rng.shuffle(roads)
        widths = values.listed(net.widths) if rng.random() < 0.8 else []
        self.call(values, "Net", Net, {"widths": widths, "roads": [tuple(road) for road in roads]})
        self.call(values, "Book", Book, {"net": net, "table": values.next_table()})
        self.call(values, "Interval", Interval, {"lower": values.book(), "upper": values.book()})

    def objects(self, values):
        """One object of each class."""
        signs, letters = importlib.import_module("meetonce.signs"), importlib.import_module("meetonce.letters")
        book = values.own_book()
        return {"Net": values.net_itself, "Book": book, "Interval": values.interval(),
                "Signpost": signs.Signpost(book=book, place=values.rng.randrange(book.net.size)),
                "Relay": letters.Relay(book=book), "Desk": values.desk()}

    def check_methods(self, values, kind, thing):
        """Call all methods of the object."""
        methods = list(METHODS[kind].items())
        values.rng.shuffle(methods)
        for method, names in methods:
            name = f"{kind}.{method}"
            values.any_integers = name == "Net.price_of" or any(each in ANY_INTEGERS for each in RAISED.get(name, ()))
            if name == "Relay.deliver":
                values.any_integers = False
            arguments = {each: values.value(each) for each in names}
            if name == "Desk.turn" and values.rng.random() < 0.7:
                arguments = self.turn_on(values, thing)
            if name == "Desk.play" and values.rng.random() < 0.5:
                arguments = {"deeds": [("wish", (0,)), ["turn", *self.turn_on(values, thing).values()]]}
            before = attributes(thing) if kind == "Desk" else None
            answer = self.call(values, name, getattr(thing, method), arguments)
            if before and isinstance(answer, str):
                self.assertTrue(before == attributes(thing), name)


    def turn_on(self, values, desk):
        """A turn that is admissible, often with a wish through both places."""
        wishes = [wish for wish in desk.awake if len(wish) > 2]
        pairs = [(wish[0], wish[-1]) for wish in wishes] or desk.net.pairs or [(0, 0)]
        start, goal = values.rng.choice(pairs)
        places = desk.book.admissible(start, goal) if (start, goal) in desk.net.pairs else [0]
        return {"start": start, "goal": goal, "place": values.rng.choice(places)}


def ladder_books():
    """All books of LADDER."""
    net = Net(*LADDER)
    return [leftmost(net), rightmost(net)] + [leftmost(net, [wish]) for wish in ((0, 2, 4), (0, 3, 5), (2, 5, 6))]


def told(value):
    """What a value tells, without objects in it."""
    if isinstance(value, (Net, Book, Interval)):
        return facts(value)
    if isinstance(value, Desk):
        return [told(each) for each in attributes(value)]
    if isinstance(value, (list, tuple)):
        return (type(value).__name__, [told(each) for each in value])
    if hasattr(value, "gi_frame"):
        return [told(each) for each in value]
    return copy.deepcopy(value)


if __name__ == "__main__":
    unittest.main()
