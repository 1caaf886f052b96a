"""Texts: items between single blanks, and integers written in one form alone."""

import unittest

from everyhalf.errors import BadText
from everyhalf.texts import integer_in, items_of
from tests.helper import NO_STRINGS, in_short_time, raised


class Texts(unittest.TestCase):
    def test_an_empty_item_is_an_item_too(self):
        self.assertEqual(items_of(""), [""])
        self.assertEqual(items_of(" "), ["", ""])
        self.assertEqual(items_of("3  /"), ["3", "", "/"])
        self.assertEqual(items_of(" 3 / "), ["", "3", "/", ""])
        self.assertEqual(items_of("3\t/\n"), ["3\t/\n"])

    def test_what_is_no_string(self):
        for value in NO_STRINGS:
            raised(BadText(0, 0), items_of, value)

    def test_integers(self):
        for value in [0, 1, 9, 10, 60, 101, -1, -10, -99, 10 ** 139, 10 ** 140 - 1, -(10 ** 140) + 1]:
            self.assertEqual(in_short_time(integer_in, str(value)), value)

    def test_other_forms(self):
        items = [
            "", "-", "--1", "-0", "00", "01", "-01", "+1", "1.", "1.0", "1e3", "1_0", " 1", "1 ", "1\n", "0x1", "a",
            "\u0661", "1\u0661", "\u00b2", "\uff11", "1-", "1" * 141, "-" + "1" * 141, "1" * 20000, "9" * 5000,
        ]
        for item in items:
            self.assertIsNone(in_short_time(integer_in, item), item)


if __name__ == "__main__":
    unittest.main()
