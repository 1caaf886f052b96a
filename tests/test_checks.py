"""is_integer, is_within, is_signs and is_same, for values of all kinds."""

import unittest

from everyhalf.checks import is_integer, is_same, is_signs, is_within
from tests.helper import HUGE, NO_INTEGERS, NO_SIGNS, NO_STRINGS, Odd, in_short_time

INTEGERS = [0, 1, -1, 2, 200, 201, -200, *HUGE, *[-many for many in HUGE]]


class Checks(unittest.TestCase):
    def test_integers(self):
        for value in INTEGERS:
            self.assertIs(is_integer(value), True)
            self.assertIs(is_integer(value=value), True)
        for at, value in enumerate(NO_INTEGERS):
            with self.subTest(at=at):
                self.assertIs(is_integer(value), False)

    def test_within_bounds(self):
        bounds = [-(10 ** 5000), -2, -1, 0, 1, 3, 200, 10 ** 5000]
        for least in bounds:
            for most in bounds:
                for value in [*INTEGERS, least - 1, least, least + 1, most - 1, most, most + 1]:
                    self.assertIs(is_within(value, least, most), least <= value <= most)

    def test_within_one_bound_or_none(self):
        for value in INTEGERS:
            self.assertIs(is_within(value, None, None), True)
            for bound in [value - 1, value, value + 1, 0, 10 ** 6000, -(10 ** 6000)]:
                self.assertIs(is_within(value, bound, None), bound <= value)
                self.assertIs(is_within(value, None, bound), value <= bound)
        self.assertIs(is_within(most=3, value=3, least=None), True)
        self.assertIs(is_within(least=4, value=3, most=None), False)

    def test_what_is_no_integer_is_within_nothing(self):
        for at, value in enumerate(NO_INTEGERS):
            for least in (None, -5, 0, 1):
                for most in (None, 0, 1, 5):
                    with self.subTest(at=at, least=least, most=most):
                        self.assertIs(is_within(value, least, most), False)

    def test_signs(self):
        for value in ["", "0", "1", "01", "10", "111", "0110", "01" * 10000]:
            self.assertIs(is_signs(value), True)
            self.assertIs(is_signs(value=value), True)
        for sign in NO_SIGNS:
            for value in [sign, "01" + sign, sign + "01", "0" + sign + "1", "01" * 5000 + sign]:
                with self.subTest(sign=sign):
                    self.assertIs(is_signs(value), False)
        for at, value in enumerate(NO_STRINGS):
            with self.subTest(at=at):
                self.assertIs(is_signs(value), False)

    def test_the_same_integer_or_string(self):
        for wanted in (0, 1, 7, -1, *HUGE):
            self.assertIs(is_same(wanted, wanted), True)
            for value in [*NO_INTEGERS, wanted + 1, float(min(wanted, 7)), str(min(wanted, 7)), Odd()]:
                self.assertIs(is_same(value, wanted), False)
        for wanted in ("", "110010", "switch"):
            self.assertIs(is_same(wanted, wanted), True)
            for value in [*NO_STRINGS, wanted + "0", [wanted], (wanted,), list(wanted), Odd()]:
                self.assertIs(is_same(value, wanted), False)

    def test_short_time(self):
        self.assertIs(in_short_time(is_signs, "01" * 10000), True)
        self.assertIs(in_short_time(is_within, 2 ** 200000, -(2 ** 200000), 2 ** 200000), True)


if __name__ == "__main__":
    unittest.main()
