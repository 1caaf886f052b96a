"""The classes of papers of all modules: their words, parts and attributes, their truth, when they are equal."""

import importlib
import unittest
from pathlib import Path

from everyhalf.check_books import OneRound, Rounds
from everyhalf.papers import Denial, Paper
from everyhalf.reasons import Tie
from everyhalf.walks import Broken, Lacks, Walk, Whole
from tests.helper import HUGE, NO_INTEGERS, NO_STRINGS, Odd

PACKAGE = Path(__file__).resolve().parent.parent / "everyhalf"

# Each class, its parameters, and what it is directly below.
CLASSES = [
    (Tie, ("kind", "by"), Paper),
    (OneRound, ("states",), Paper),
    (Rounds, ("many", "one", "other"), Denial),
    (Walk, ("states",), Paper),
    (Whole, ("states",), Paper),
    (Broken, ("at", "why"), Denial),
    (Lacks, ("state",), Denial),
]
NESTED = [[], (), [[1, [2, ("a", [])]], "b"], ([1], [[[]]]), {"a": [1, 2]}, [{"a": [1]}, [{"b": ()}]], "110010", 7]
WANTED = [(), (), ((1, (2, ("a", ()))), "b"), ((1,), (((),),)), {"a": [1, 2]}, ({"a": [1]}, ({"b": ()},)), "110010", 7]
PLAIN = [value for value in [*NO_INTEGERS, *NO_STRINGS, *HUGE, 0, 1, -7, "x"] if not isinstance(value, (list, tuple))]


def drawn_parts(values, at, many):
    """So many of the values, from an index on, around."""
    return [values[(at + k) % len(values)] for k in range(many)]


class PaperClasses(unittest.TestCase):
    def test_these_are_all_of_them(self):
        found = {
            value for path in PACKAGE.glob("*.py")
            for value in vars(importlib.import_module(f"everyhalf.{path.stem}")).values()
            if isinstance(value, type) and issubclass(value, Paper)
        }
        self.assertEqual(found - {Paper, Denial}, {made for made, _, _ in CLASSES})

    def test_bases(self):
        for made, _, base in CLASSES:
            self.assertEqual(made.__bases__, (base,))
            self.assertIn("__init__", vars(made))

    def test_by_place_and_by_name(self):
        for made, fields, base in CLASSES:
            for at in range(len(NESTED)):
                given = drawn_parts(NESTED, at, len(fields))
                wanted = tuple(drawn_parts(WANTED, at, len(fields)))
                backward = dict(reversed(list(zip(fields, given))))
                for paper in (made(*given), made(**backward)):
                    with self.subTest(made=made.__name__, at=at):
                        self.assertEqual(paper.word, made.__name__.lower())
                        self.assertEqual(repr(paper.parts), repr(wanted))
                        self.assertEqual(repr([getattr(paper, field) for field in fields]), repr(list(wanted)))
                        self.assertIs(bool(paper), base is Paper)

    def test_values_of_any_kind_are_kept(self):
        for made, fields, base in CLASSES:
            for at in range(len(PLAIN)):
                given = drawn_parts(PLAIN, at, len(fields))
                paper = made(*given)
                for field, value, part in zip(fields, given, paper.parts):
                    self.assertIs(getattr(paper, field), value)
                    self.assertIs(part, value)
                self.assertIs(bool(paper), base is Paper)

    def test_changed_behind_the_call(self):
        for made, fields, _ in CLASSES:
            inner = [1, [2]]
            outer = [inner]
            paper = made(*[outer] * len(fields))
            inner[1].append(3)
            inner.append(4)
            outer.clear()
            self.assertEqual(paper.parts, (((1, (2,)),),) * len(fields))
            self.assertEqual([getattr(paper, field) for field in fields], [((1, (2,)),)] * len(fields))

    def test_no_more_and_no_less_parts(self):
        for made, fields, _ in CLASSES:
            for many in (0, len(fields) - 1, len(fields) + 1):
                if many != len(fields):
                    with self.assertRaises(TypeError):
                        made(*["x"] * many)

    def test_equal_exactly_if_class_word_and_parts_are(self):
        for made, fields, base in CLASSES:
            one = made(*[[1, [2]]] * len(fields))
            self.assertIs(one == made(*[(1, (2,))] * len(fields)), True)
            self.assertIs(one != made(*[(1, (2,))] * len(fields)), False)
            self.assertIs(made(*[1] * len(fields)) == made(*[True] * len(fields)), True)
            for at in range(len(fields)):
                other = [[1, [2]]] * len(fields)
                other[at] = (1, 2)
                self.assertIs(one == made(*other), False)
                self.assertIs(one != made(*other), True)
            for other in [base(one.word, *one.parts), Paper(one.word, *one.parts), one.parts, one.word, None, Odd()]:
                self.assertIs(one == other, False)

    def test_papers_of_unlike_classes(self):
        for made, fields, _ in CLASSES:
            for other, others, _ in CLASSES:
                if made is not other:
                    self.assertIs(made(*[1] * len(fields)) == other(*[1] * len(others)), False)
            below = type("Below", (made,), {})
            self.assertIs(made(*[1] * len(fields)) == below(*[1] * len(fields)), False)


if __name__ == "__main__":
    unittest.main()
