"""Papers and denials, and fixed."""

import unittest

from everyhalf.papers import Denial, Paper, fixed
from tests.helper import HUGE, NO_INTEGERS, NO_STRINGS, Odd


class Tie(Paper):
    """A class of papers, as other modules have them."""

    def __init__(self, kind, by):
        super().__init__("tie", kind, by)


class Other(Paper):
    def __init__(self, kind, by):
        super().__init__("tie", kind, by)


def nested(kinds, deep, inmost):
    """A value in as many lists and tuples as are told, the kinds in turn."""
    value = inmost
    for at in range(deep):
        value = kinds[at % len(kinds)]([at, value])
    return value


class Fixed(unittest.TestCase):
    def test_lists_become_tuples_all_the_way_in(self):
        for value, wanted in [
            ([], ()),
            ((), ()),
            ([[]], ((),)),
            ([1, [2, (3, [4])], "ab"], (1, (2, (3, (4,))), "ab")),
            (([1], ([2], [[3]])), ((1,), ((2,), ((3,),)))),
        ]:
            self.assertEqual(repr(fixed(value)), repr(wanted))
            self.assertEqual(repr(fixed(value=value)), repr(wanted))

    def test_thirty_deep(self):
        for kinds in ([list], [tuple], [list, tuple], [tuple, tuple, list]):
            for deep in range(31):
                value = fixed(nested(kinds, deep, [deep]))
                self.assertEqual(repr(value), repr(nested([tuple], deep, (deep,))))

    def test_other_values_stay(self):
        inner = [1]
        for at, value in enumerate([*NO_INTEGERS, *NO_STRINGS, *HUGE, {"a": inner}, {1, 2}, b"10", Paper("x", [1])]):
            if not isinstance(value, (list, tuple)):
                with self.subTest(at=at):
                    self.assertIs(fixed(value), value)
                    self.assertIs(fixed([[value]])[0][0], value)
        self.assertIs(fixed({"a": inner})["a"], inner)

    def test_what_was_passed_is_not_changed(self):
        value = [1, [2, [3]]]
        fixed(value)
        self.assertEqual(value, [1, [2, [3]]])


class Papers(unittest.TestCase):
    def test_word_and_parts(self):
        for made in (Paper, Denial):
            paper = made("note", 1, [2, (3, [])], None, {"a": [1]})
            self.assertEqual((paper.word, paper.parts), ("note", (1, (2, (3, ())), None, {"a": [1]})))
            self.assertEqual(repr(paper.parts), "(1, (2, (3, ())), None, {'a': [1]})")
            self.assertEqual((made("x").word, made("x").parts), ("x", ()))
            self.assertEqual((made(word="x").word, made(word="x").parts), ("x", ()))

    def test_parts_of_any_kind(self):
        for at, value in enumerate([*NO_INTEGERS, *NO_STRINGS, *HUGE]):
            if not isinstance(value, (list, tuple)):
                with self.subTest(at=at):
                    self.assertIs(Paper("x", value).parts[0], value)
                    self.assertIs(Denial("x", 0, value).parts[1], value)

    def test_kept_although_what_was_passed_is_changed(self):
        inner, outer = [1], []
        outer.append(inner)
        for made in (Paper, Denial):
            paper = made("x", outer, inner)
            inner.append(2)
            outer.clear()
            self.assertEqual(paper.parts, (((1,),), (1,)))
            inner[:], outer[:] = [1], [inner]

    def test_truth(self):
        for parts in [(), (0,), (None, []), ("", False)]:
            self.assertIs(bool(Paper("x", *parts)), True)
            self.assertIs(bool(Denial("x", *parts)), False)
        self.assertIs(bool(Paper("")), True)
        self.assertIs(bool(Tie(0, 0)), True)

    def test_a_denial_is_a_paper(self):
        self.assertEqual(Denial.__bases__, (Paper,))

    def test_each_class_has_what_is_listed_for_it(self):
        for made in (Paper, Denial):
            for name in ("__init__", "__eq__", "__bool__"):
                self.assertIn(name, vars(made))

    def test_equal_papers(self):
        for made in (Paper, Denial):
            self.assertIs(made("x", [1, [2]]) == made("x", (1, (2,))), True)
            self.assertIs(made("x", [1, [2]]) != made("x", (1, (2,))), False)
            self.assertIs(made("x", 1) == made("x", True), True)
            self.assertIs(made("x", made("y", [1])) == made("x", made("y", (1,))), True)
        self.assertIs(Tie("last", [1]) == Tie(by=(1,), kind="last"), True)

    def test_unlike_papers(self):
        for made in (Paper, Denial):
            one = made("x", 1, 2)
            for parts in [(1,), (2, 1), (1, 2, 3), ((1, 2),), ("1", 2), ()]:
                self.assertIs(one == made("x", *parts), False)
            for other in [made("y", 1, 2), made("X", 1, 2), made("", 1, 2)]:
                self.assertIs(one == other, False)
                self.assertIs(one != other, True)

    def test_other_classes_are_unlike(self):
        papers = [Paper("tie", 1, 2), Denial("tie", 1, 2), Tie(1, 2), Other(1, 2)]
        for one in papers:
            for other in papers:
                self.assertIs(one == other, one is other)
            for other in [None, True, ("tie", 1, 2), ("tie", (1, 2)), (1, 2), "tie", {}, object()]:
                self.assertIs(one == other, False)
                self.assertIs(other == one, False)
            self.assertIs(one == Odd(), False)


if __name__ == "__main__":
    unittest.main()
