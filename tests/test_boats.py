"""Promise 8: boats."""

import unittest

from boatbridge.boats import Boat


class Alike:
    """Bears the fields of a Boat, and is none."""

    name = "anna"
    bears = 40


class BoatTest(unittest.TestCase):
    def test_fields(self):
        boat = Boat("anna", 40)
        self.assertEqual((boat.name, boat.bears), ("anna", 40))

    def test_arguments_by_names(self):
        boat = Boat(bears=40, name="anna")
        self.assertEqual((boat.name, boat.bears), ("anna", 40))

    def test_str_and_repr(self):
        for name, bears, text, shown in [
            ("anna", 40, "anna:40", "Boat('anna', 40)"),
            ("a", 1, "a:1", "Boat('a', 1)"),
            ("zebrazzz", 10 ** 6, "zebrazzz:1000000", "Boat('zebrazzz', 1000000)"),
        ]:
            with self.subTest(name):
                self.assertEqual(str(Boat(name, bears)), text)
                self.assertEqual(f"{Boat(name, bears)}", text)
                self.assertEqual(repr(Boat(name, bears)), shown)
                self.assertEqual(str([Boat(name, bears)]), "[" + shown + "]")

    def test_a_boat_is_true(self):
        self.assertIs(bool(Boat("a", 1)), True)


class EqualBoatsTest(unittest.TestCase):
    def assert_equal_both_ways(self, one, other, equal):
        self.assertIs(one == other, equal)
        self.assertIs(other == one, equal)
        self.assertIs(one != other, not equal)
        self.assertIs(other != one, not equal)

    def test_same_name_and_bearing(self):
        self.assert_equal_both_ways(Boat("anna", 40), Boat("anna", 40), True)
        self.assert_equal_both_ways(Boat("anna", 40), Boat(bears=40, name="anna"), True)

    def test_other_name_or_bearing(self):
        self.assert_equal_both_ways(Boat("anna", 40), Boat("anna", 41), False)
        self.assert_equal_both_ways(Boat("anna", 40), Boat("berta", 40), False)
        self.assert_equal_both_ways(Boat("anna", 40), Boat("berta", 41), False)

    def test_nothing_else_is_equal(self):
        for other in [
            None, True, False, 0, 40, "anna", "anna:40", "Boat('anna', 40)", ("anna", 40), ["anna", 40],
            {"anna": 40}, {"name": "anna", "bears": 40}, object(), Alike(),
        ]:
            with self.subTest(other=other):
                self.assert_equal_both_ways(Boat("anna", 40), other, False)


if __name__ == "__main__":
    unittest.main()
