"""The names, parameters and homes of the interface."""

import importlib
import inspect
import unittest

# For each module its functions, and for each class its methods, with their parameters as they are written.
FUNCTIONS = {
    "nets": {"with_road": "net, start, end, price", "without_road": "net, start, end"},
    "prices": {"check_route": "net, route", "route_price": "net, route", "is_cheapest": "net, route",
               "least_price": "net, start, goal", "cheap_next_places": "net, start, goal",
               "leftmost_route": "net, start, goal", "price_table": "net, goal", "table_shows": "net, route, table"},
    "nettext": {"net_text": "net", "read_net": "text"},
    "routes": {"conflict": "first, second", "shared_places": "first, second", "is_part": "part, route",
               "nowhere_right": "first, second", "beside": "first, second"},
    "wishes": {"check_wishes": "net, wishes", "wish_states": "net, wishes"},
    "books": {"images": "book, start, goal", "climb": "book, start, goal, place"},
    "filling": {"fill": "net, wishes=(), *, choices=()", "choices_of": "book, wishes=()"},
    "order": {"is_left": "first, second", "leftmost": "net, wishes=()", "rightmost": "net, wishes=()",
              "meet_of": "books", "join_of": "books"},
    "intervals": {"interval_of": "net, wishes=()", "between": "interval, *, choices=()", "clamp": "interval, book",
                  "common": "first, second", "possible": "net, wishes, route", "follows": "net, wishes, route"},
    "changes": {"amend": "book, net, wishes=()", "losses": "book, net, wishes=()",
                "turn": "book, start, goal, place, *, wishes=()"},
    "tables": {"tables_of": "book", "judge": "net, next_table, previous_table, least_table"},
    "pins": {"open_pairs": "book", "loose_pairs": "book, routes", "pins": "book, routes",
             "another_book": "book, routes", "essence": "book"},
    "pages": {"next_page": "interval, book", "pages": "interval", "count_pages": "interval, *, limit=1000",
              "page_number": "interval, book, *, limit=1000"},
    "lots": {"best_lot": "routes, worths", "lot_holds": "routes, worths, lot, marks"},
    "mirrors": {"mirrored": "net", "turned": "net", "mirrored_route": "net, route", "turned_route": "net, route",
                "mirrored_book": "book", "turned_book": "book"},
    "regions": {"band_places": "net, low, high", "band": "net, low, high", "band_book": "book, low, high",
                "join_bands": "net, cuts, books", "side_places": "net, route, *, left=True",
                "side": "net, route, *, left=True", "side_book": "book, route, *, left=True",
                "join_sides": "net, route, left_book, right_book"},
    "papers": {"holds": "net, paper", "price_paper": "net, route", "wish_paper": "net, wishes, route",
               "sure_paper": "net, wishes, start, goal", "book_paper": "book", "lot_paper": "routes, worths",
               "loss_papers": "book, net, wishes=()"},
    "journal": {"deed_line": "deed", "read_deed": "line", "desk_text": "desk", "read_desk": "text", "replay": "desk"},
}
METHODS = {
    ("nets", "Net"): {"__init__": "widths, roads", "row_of": "place", "column_of": "place", "places_of": "row",
                      "next_places": "place", "previous_places": "place", "price_of": "start, end"},
    ("books", "Book"): {"__init__": "net, table", "route": "start, goal", "next_place": "start, goal",
                        "previous_place": "start, goal", "admissible": "start, goal", "next_table": "",
                        "previous_table": ""},
    ("intervals", "Interval"): {"__init__": "lower, upper", "sure_routes": "", "single": ""},
    ("signs", "Signpost"): {"__init__": "book, place", "__call__": "goal"},
    ("letters", "Relay"): {"__init__": "book", "issue": "book", "deliver": "version, place", "version_at": "place",
                           "in_use": "", "settled": "", "next_place": "place, goal", "walk": "start, goal",
                           "bounds": "start, goal"},
    ("desk", "Desk"): {"__init__": "net", "states": "", "wish": "route", "drop": "index", "close": "start, end",
                       "reopen": "start, end", "reprice": "start, end, price", "turn": "start, goal, place",
                       "settle": "", "undo": "", "redo": "", "play": "deeds"},
}


def parameters(function):
    """The parameters of a function as they are written, without the brackets."""
    return str(inspect.signature(function))[1:-1]


class InterfaceTest(unittest.TestCase):
    """The interface of what has landed."""

    def test_functions(self):
        for module, functions in FUNCTIONS.items():
            for name, listed in functions.items():
                with self.subTest(module=module, name=name):
                    function = getattr(importlib.import_module(f"meetonce.{module}"), name)
                    self.assertEqual(f"meetonce.{module}", function.__module__)
                    self.assertTrue(inspect.isfunction(function))
                    self.assertEqual(listed, parameters(function))

    def test_classes(self):
        for (module, name), methods in METHODS.items():
            kind = getattr(importlib.import_module(f"meetonce.{module}"), name)
            self.assertEqual(f"meetonce.{module}", kind.__module__)
            for method, listed in methods.items():
                with self.subTest(name=name, method=method):
                    own = vars(kind)[method]
                    self.assertEqual(f"self, {listed}" if listed else "self", parameters(own))

    def test_parameters_by_name(self):
        nets = importlib.import_module("meetonce.nets")
        prices = importlib.import_module("meetonce.prices")
        net = nets.Net(roads=[(0, 1, 5)], widths=[1, 1])
        self.assertEqual(5, net.price_of(end=1, start=0))
        self.assertEqual(7, prices.least_price(goal=1, net=nets.with_road(price=7, end=1, net=net, start=0), start=0))


if __name__ == "__main__":
    unittest.main()
