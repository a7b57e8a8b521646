"""Promises 2 and 3: each refusal is a class of its own, made of its fields and bearing them."""

import unittest

from boatbridge import errors

# Each class of the interface: the class straight above it, and its fields in their order.
CLASSES = {
    "NoTime": (ValueError, ["word"]),
    "NoWire": (ValueError, ["word"]),
    "NoBridge": (ValueError, []),
    "NoRow": (ValueError, ["row"]),
    "NoThing": (TypeError, ["thing"]),
    "NoBoat": (KeyError, ["name"]),
    "Taken": (KeyError, ["name"]),
    "NoDeck": (Exception, ["name"]),
    "NoWaits": (ZeroDivisionError, ["many"]),
    "NoSpan": (IndexError, ["at"]),
    "NoRule": (LookupError, ["at"]),
    "NoBook": (LookupError, ["row"]),
    "Lacks": (LookupError, ["name", "bank", "word"]),
    "NoStretch": (ArithmeticError, ["first", "behind"]),
    "Overload": (OverflowError, ["part", "at", "over"]),
    "NoChange": (RuntimeError, ["one", "other"]),
    "TooLate": (RuntimeError, ["minute"]),
    "Late": (RuntimeError, ["minute"]),
    "Backward": (RuntimeError, ["minute"]),
    "NoDeed": (NotImplementedError, ["word"]),
}

# Things of all kinds, none the same as another, so that swapped fields are seen.
THINGS = [
    None, True, False, 0, -1, 10 ** 12, "", "anna", "24:00", [], [1, [2]], (), ("a", None),
    {}, {"a": [1]}, {1: 2}, object(),
]


def made_by_places(name, things):
    return getattr(errors, name)(*things)


def made_by_names(name, fields, things):
    return getattr(errors, name)(**dict(zip(fields, things)))


class ClassesTest(unittest.TestCase):
    def test_each_stands_straight_under_the_class_told(self):
        for name, (above, _) in CLASSES.items():
            with self.subTest(name):
                self.assertEqual(getattr(errors, name).__bases__, (above,))

    def test_each_is_defined_in_errors_under_its_name(self):
        for name in CLASSES:
            with self.subTest(name):
                self.assertEqual(getattr(errors, name).__module__, "boatbridge.errors")
                self.assertEqual(getattr(errors, name).__name__, name)

    def test_there_is_no_other_class(self):
        found = [name for name, thing in vars(errors).items() if isinstance(thing, type)]
        self.assertEqual(sorted(found), sorted(CLASSES))

    def test_none_stands_under_another_one(self):
        for one in CLASSES:
            for other in CLASSES:
                if one != other:
                    with self.subTest(one=one, other=other):
                        self.assertFalse(issubclass(getattr(errors, one), getattr(errors, other)))

    def test_each_is_raised_and_caught_by_its_name_and_by_the_one_above(self):
        for name, (above, fields) in CLASSES.items():
            with self.subTest(name):
                for caught in (getattr(errors, name), above):
                    with self.assertRaises(caught):
                        raise made_by_places(name, fields)


class FieldsTest(unittest.TestCase):
    def assert_bears(self, error, fields, things):
        for field, thing in zip(fields, things):
            self.assertIs(getattr(error, field), thing)

    def test_fields_by_places_and_by_names_are_the_very_things(self):
        for name, (_, fields) in CLASSES.items():
            for start in range(len(THINGS)):
                things = [THINGS[(start + k) % len(THINGS)] for k in range(len(fields))]
                with self.subTest(name, things=things):
                    self.assert_bears(made_by_places(name, things), fields, things)
                    self.assert_bears(made_by_names(name, fields, things), fields, things)

    def test_names_in_another_order_than_the_places(self):
        error = errors.Overload(over=7, part="span", at=2)
        self.assertEqual((error.part, error.at, error.over), ("span", 2, 7))
        error = errors.Lacks(word="on", bank="far", name="anna")
        self.assertEqual((error.name, error.bank, error.word), ("anna", "far", "on"))
        error = errors.NoStretch(behind=3, first=5)
        self.assertEqual((error.first, error.behind), (5, 3))
        error = errors.NoChange(other=None, one=4)
        self.assertEqual((error.one, error.other), (4, None))

    def test_no_class_has_other_fields(self):
        for name, (_, fields) in CLASSES.items():
            with self.subTest(name):
                self.assertEqual(sorted(vars(made_by_places(name, fields))), sorted(fields))

    def test_each_needs_all_its_fields(self):
        for name, (_, fields) in CLASSES.items():
            if fields:
                with self.subTest(name):
                    with self.assertRaises(TypeError):
                        made_by_places(name, fields[1:])

    def test_no_bridge_is_made_of_nothing(self):
        self.assertIsInstance(errors.NoBridge(), errors.NoBridge)
        self.assertEqual(errors.NoBridge().args, ())


if __name__ == "__main__":
    unittest.main()
