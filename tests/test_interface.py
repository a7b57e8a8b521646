"""The interface: its names, arguments and defaults, each defined in the file that lists it."""

import importlib
import inspect
import unittest

# By file: each function or class, and its arguments in their order with what stands as a default.
LISTED = {
    "times": {
        "show_time": [("minute", None)],
        "read_time": [("word", None)],
    },
    "stretches": {
        "Stretch": [("first", None), ("behind", "None")],
        "meet": [("one", None), ("other", None)],
        "joined": [("some", None), ("apart", "0")],
        "gaps": [("some", None), ("within", None)],
        "minutes_in": [("some", None)],
    },
    "boats": {
        "Boat": [("name", None), ("bears", None)],
    },
}


def arguments(thing):
    """Name and default, as it is written, of each argument; None where there is no default."""
    told = []
    for name, argument in inspect.signature(thing).parameters.items():
        needed = argument.default is inspect.Parameter.empty
        told.append((name, None if needed else repr(argument.default)))
    return told


class InterfaceTest(unittest.TestCase):
    def test_arguments_and_files(self):
        for file, names in LISTED.items():
            module = importlib.import_module("boatbridge." + file)
            for name, told in names.items():
                with self.subTest(file=file, name=name):
                    thing = getattr(module, name)
                    self.assertEqual(thing.__module__, module.__name__)
                    self.assertEqual(arguments(thing), told)

    def test_arguments_by_places_and_by_names(self):
        for file, names in LISTED.items():
            module = importlib.import_module("boatbridge." + file)
            for name in names:
                for argument in inspect.signature(getattr(module, name)).parameters.values():
                    with self.subTest(file=file, name=name, argument=argument.name):
                        self.assertIs(argument.kind, inspect.Parameter.POSITIONAL_OR_KEYWORD)


if __name__ == "__main__":
    unittest.main()
