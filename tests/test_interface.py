"""The interface: its names, arguments and defaults, each defined in the file that lists it."""

import importlib
import inspect
import unittest

# By file: each function or class, and its arguments in their order with what stands as a default.
LISTED = {
    "times": {
        "show_time": [("minute", None)],
        "read_time": [("word", None)],
    },
    "stretches": {
        "Stretch": [("first", None), ("behind", "None")],
        "meet": [("one", None), ("other", None)],
        "joined": [("some", None), ("apart", "0")],
        "gaps": [("some", None), ("within", None)],
        "minutes_in": [("some", None)],
    },
    "boats": {
        "Boat": [("name", None), ("bears", None)],
    },
    "bridges": {
        "Bridge": [("boats", None), ("spans", None)],
        "read_bridge": [("text", None)],
    },
    "loads": {
        "halves": [("bridge", None), ("load", None)],
        "need_borne": [("bridge", None), ("load", None)],
        "is_borne": [("bridge", None), ("load", None)],
        "room_at": [("bridge", None), ("load", None), ("at", None)],
    },
    "changes": {
        "change_order": [("bridge", None), ("boats", None), ("load", "None")],
    },
    "changelooks": {
        "keeps": [("bridge", None), ("boats", None), ("load", None), ("thing", None)],
    },
    "wires": {
        "show_wire": [("reading", None)],
        "read_wire": [("word", None)],
    },
    "gauges": {
        "Gauge": [("lag", "60"), ("high", "200"), ("top", "400"), ("thin", "5"), ("thick", "20")],
    },
    "hours": {
        "Rule": [],
        "Hours": [("first", None), ("behind", None)],
        "Days": [("days", None)],
        "Unless": [("rule", None)],
        "Both": [("rules", None)],
        "Either": [("rules", None)],
    },
    "hourtexts": {
        "read_rule": [("text", None)],
    },
    "windows": {
        "first_allowed": [("rule", None), ("minute", None), ("long", "1")],
        "allowed_in": [("rule", None), ("within", None)],
    },
    "openings": {
        "openings": [("ships", None), ("rule", "None"), ("out", "5"), ("gap", "30"), ("price", "0")],
    },
    "openlooks": {
        "is_plan": [("ships", None), ("plan", None), ("rule", "None"), ("out", "5"), ("gap", "30")],
        "plan_price": [("ships", None), ("plan", None), ("price", "0")],
        "bars_less": [
            ("ships", None), ("worth", None), ("paper", None), ("rule", "None"), ("out", "5"), ("gap", "30"),
            ("price", "0"),
        ],
    },
    "decks": {
        "Deck": [
            ("bridge", None), ("part", None), ("out", "5"), ("rest", "30"), ("turn", "3"), ("rule", "None"),
        ],
    },
    "waits": {
        "waits": [("events", None), ("comings", None)],
        "ranked": [("waited", None), ("by", "'long'"), ("backward", "False")],
        "longest": [("waited", None)],
        "mean_wait": [("waited", None)],
        "beyond": [("events", None), ("comings", None), ("most", None), ("until", None)],
    },
    "books": {
        "Book": [("bank", None)],
        "read_book": [("text", None)],
    },
    "banks": {
        "books_of": [("events", None)],
        "crossings": [("one", None), ("other", None)],
    },
    "desk": {
        "Desk": [],
    },
}

# By file and class: the methods that the class itself has to define, and their arguments.
METHODS = {
    ("bridges", "Bridge"): {
        "boats": [],
        "spans": [],
        "boat": [("name", None)],
        "with_boat": [("at", None), ("boat", None)],
    },
    ("gauges", "Gauge"): {
        "stand": [("readings", None), ("minute", None)],
        "stands": [("readings", None), ("within", None)],
        "last_call": [("readings", None), ("now", None), ("long", "120")],
    },
    ("hours", "Rule"): {"allows": [("minute", None)]},
    ("hours", "Hours"): {"allows": [("minute", None)]},
    ("hours", "Days"): {"allows": [("minute", None)]},
    ("hours", "Unless"): {"allows": [("minute", None)]},
    ("hours", "Both"): {"allows": [("minute", None)]},
    ("hours", "Either"): {"allows": [("minute", None)]},
    ("decks", "Deck"): {
        "cart": [("name", None), ("bank", None), ("weight", None), ("at", "None")],
        "ship": [("name", None), ("long", "10"), ("at", "None")],
        "rest_hours": [("stretch", None)],
        "go_to": [("minute", None)],
        "now": [],
        "mode": [],
        "turn": [],
        "on_deck": [],
        "load": [],
        "line": [("bank", None)],
        "ships": [],
    },
    ("books", "Book"): {
        "write": [("minute", None), ("word", None), ("name", None)],
        "rows": [],
    },
    ("desk", "Desk"): {"say": [("row", None)]},
}


def arguments(thing):
    """Name and default, as it is written, of each argument; None where there is no default."""
    told = []
    for name, argument in inspect.signature(thing).parameters.items():
        needed = argument.default is inspect.Parameter.empty
        told.append((name, None if needed else repr(argument.default)))
    return told


class InterfaceTest(unittest.TestCase):
    def test_arguments_and_files(self):
        for file, names in LISTED.items():
            module = importlib.import_module("boatbridge." + file)
            for name, told in names.items():
                with self.subTest(file=file, name=name):
                    thing = getattr(module, name)
                    self.assertEqual(thing.__module__, module.__name__)
                    self.assertEqual(arguments(thing), told)

    def test_methods_of_each_class_itself(self):
        for (file, kind), methods in METHODS.items():
            found = vars(getattr(importlib.import_module("boatbridge." + file), kind))
            for name, told in methods.items():
                with self.subTest(kind=kind, name=name):
                    self.assertEqual(arguments(found[name])[1:], told)

    def test_arguments_by_places_and_by_names(self):
        for file, names in LISTED.items():
            module = importlib.import_module("boatbridge." + file)
            for name in names:
                for argument in inspect.signature(getattr(module, name)).parameters.values():
                    with self.subTest(file=file, name=name, argument=argument.name):
                        self.assertIs(argument.kind, inspect.Parameter.POSITIONAL_OR_KEYWORD)


if __name__ == "__main__":
    unittest.main()
