"""The errors: their classes, fields and bases."""

import unittest

from everyhalf import errors
from everyhalf.errors import BadLine, BadNumber, BadText, HalfError, Nothing, TooMany
from tests.helper import HUGE, NO_INTEGERS, NO_STRINGS

WITH_PART = ["BadNumber", "BadWord", "BadState", "BadTree", "BadBook", "BadCompany", "BadWalk", "Misfit"]
FIELDS = {
    **{name: ("part",) for name in WITH_PART},
    "TooMany": ("what", "most"),
    "Nothing": (),
    "BadText": ("line", "item"),
    "BadLine": ("line", "error"),
}
NESTED = [[1, [2, ([3],)]], ([],)]
VALUES = [*NO_INTEGERS, *NO_STRINGS, *HUGE, 0, 1, -7, "word", NESTED, BadNumber("many"), ValueError("x")]


class Errors(unittest.TestCase):
    def test_all_are_there_and_no_others(self):
        made = {name for name, value in vars(errors).items() if isinstance(value, type) and name != "HalfError"}
        self.assertEqual(made, set(FIELDS))

    def test_bases(self):
        self.assertEqual(HalfError.__bases__, (ValueError,))
        for name in FIELDS:
            self.assertEqual(getattr(errors, name).__bases__, (HalfError,), name)

    def test_fields_by_place_and_by_name_are_kept_as_they_were_passed(self):
        for name, fields in FIELDS.items():
            made = getattr(errors, name)
            for at, value in enumerate(VALUES):
                given = [VALUES[(at + k) % len(VALUES)] for k in range(len(fields))]
                for error in (made(*given), made(**dict(zip(fields, given)))):
                    with self.subTest(name=name, at=at):
                        self.assertEqual(set(vars(error)), set(fields))
                        for field, passed in zip(fields, given):
                            self.assertIs(getattr(error, field), passed)

    def test_lists_stay_lists(self):
        self.assertIs(BadNumber(NESTED).part, NESTED)
        self.assertIs(BadLine(error=NESTED, line=0).error, NESTED)

    def test_names_in_any_order(self):
        self.assertEqual(vars(TooMany(most=200, what="pairs")), {"what": "pairs", "most": 200})
        self.assertEqual(vars(BadText(item=4, line=0)), {"line": 0, "item": 4})
        inner = Nothing()
        self.assertEqual(vars(BadLine(error=inner, line=2)), {"line": 2, "error": inner})

    def test_nothing_has_no_field(self):
        self.assertEqual(vars(Nothing()), {})

    def test_they_can_be_raised_and_caught(self):
        for name, fields in FIELDS.items():
            for wanted in (getattr(errors, name), HalfError, ValueError):
                with self.subTest(name=name), self.assertRaises(wanted):
                    raise getattr(errors, name)(*["x"] * len(fields))


if __name__ == "__main__":
    unittest.main()
