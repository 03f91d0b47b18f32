"""The classes of meetonce.errors."""

import unittest

from meetonce import errors
from meetonce.errors import GuideError

FIELDS = {
    "BadNet": ("at",), "RoadsCross": ("first", "second"), "NoRoad": ("start", "end"),
    "BadRoute": ("index", "at"), "NoRoute": ("start", "goal"), "BadText": ("line",),
    "NotCheapest": ("index", "cheaper"), "Conflict": ("first", "second", "split", "meeting"),
    "NotABook": ("start", "goal"), "NotKept": ("index",), "NotAdmissible": ("place",),
    "Forced": ("index",), "NoBooks": (), "WrongNet": ("index",), "NotOrdered": ("start", "goal"),
    "NoVersion": ("version",), "TooMany": ("limit",), "BadCuts": (), "NotThrough": (),
    "NoWish": ("index",), "NothingToUndo": (), "NothingToRedo": (),
}


def sample_values(name):
    """Different values for the fields of a class."""
    return [(4, 5, 6) if field == "cheaper" else 7 + 2 * at for at, field in enumerate(FIELDS[name])]


class ErrorsTest(unittest.TestCase):
    """The interface's list of errors."""

    def test_the_base_class_is_a_value_error(self):
        self.assertEqual((ValueError,), GuideError.__bases__)

    def test_each_class_is_a_direct_subclass_of_the_base_class(self):
        for name in FIELDS:
            with self.subTest(name):
                self.assertEqual((GuideError,), getattr(errors, name).__bases__)
                self.assertEqual("meetonce.errors", getattr(errors, name).__module__)

    def test_no_class_is_another_one(self):
        self.assertEqual(len(FIELDS), len({getattr(errors, name) for name in FIELDS}))

    def test_each_error_has_its_attributes(self):
        for name, fields in FIELDS.items():
            with self.subTest(name):
                values = sample_values(name)
                error = getattr(errors, name)(*values)
                self.assertEqual(values, [getattr(error, field) for field in fields])

    def test_each_error_is_caught_as_its_own_kind_and_no_other(self):
        for name in FIELDS:
            with self.subTest(name):
                error = getattr(errors, name)(*sample_values(name))
                self.assertIsInstance(error, GuideError)
                self.assertIsInstance(error, ValueError)
                kinds = [other for other in FIELDS if isinstance(error, getattr(errors, other))]
                self.assertEqual([name], kinds)


if __name__ == "__main__":
    unittest.main()
