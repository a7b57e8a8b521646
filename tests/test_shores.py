"""The two banks, by their names."""

import unittest

from boatbridge.shores import is_bank, other_bank
from tests.anything import things


class ShoresTest(unittest.TestCase):
    def test_the_names_of_banks(self):
        self.assertIs(is_bank("near"), True)
        self.assertIs(is_bank("far"), True)
        for thing in [*things(), "Near", "near ", "FAR", "nearfar", ["near"], ("far",)]:
            if thing != "near":
                self.assertIs(is_bank(thing), False)

    def test_the_bank_over_there(self):
        self.assertEqual((other_bank("near"), other_bank("far")), ("far", "near"))


if __name__ == "__main__":
    unittest.main()
