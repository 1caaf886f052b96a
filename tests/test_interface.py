"""The whole interface: each name in its file, with its parameters; and each call refuses them in their order."""

import importlib
import inspect
import unittest

from everyhalf import errors
from everyhalf.books import Book
from everyhalf.companies import Company
from everyhalf.desks import Desk
from everyhalf.errors import (
    BadBook, BadCompany, BadNumber, BadState, BadText, BadTree, BadWalk, BadWord, HalfError,
)
from tests.helper import HUGE, NO_INTEGERS, NO_STATES, NO_STRINGS, NO_WORDS, Odd, raised

# For each module its functions, with the names of their parameters.
FUNCTIONS = {
    "checks": {"is_integer": "value", "is_within": "value least most", "is_signs": "value"},
    "papers": {"fixed": "value"},
    "words": {
        "is_word": "value", "pairs_in": "word", "first_pair": "word", "joined_pair": "u v", "turned": "word",
        "turned_back": "word", "turned_by": "word many", "period": "word", "turns_of": "word", "mirrored_word": "word",
    },
    "word_numbers": {
        "how_many_words": "pairs", "number_of": "word", "word_at": "pairs number", "next_word": "word",
        "all_words": "pairs",
    },
    "trees": {
        "ups_of": "word", "word_of": "ups", "around": "word place", "ways_from": "word", "least_sum": "word",
        "middles": "word", "leaves": "word",
    },
    "tree_names": {
        "name_of": "word", "mirrored_tree": "word", "are_one_tree": "one other", "star": "pairs", "line": "pairs",
        "how_many_trees": "pairs", "all_trees": "pairs",
    },
    "states": {
        "is_state": "value", "pairs_of": "state", "is_high": "state", "switched": "state lamp", "moved": "state many",
        "exchanged": "state", "how_many_states": "pairs", "all_states": "pairs",
    },
    "homes": {"home_of": "state", "low_state": "word shift", "high_state": "word shift"},
    "loops": {
        "last_partner": "state", "turn_partner": "state", "on": "state", "back": "state", "far_on": "state many",
        "loop_long": "state", "loop_of": "state", "steps_on": "one other", "tree_at": "state", "loop_begins": "pairs",
    },
    "pulls": {
        "can_pull": "word", "pulled": "word", "unpulled": "word", "is_right": "word", "pulls_of": "word",
        "right_pulls": "word", "chosen_word": "word",
    },
    "rings": {"ring_of": "word", "loop_ties": "word", "ring_ties": "word", "ring_at": "state"},
    "rounds": {
        "next_state": "state", "state_before": "state", "stretch": "state many", "stretch_back": "state many",
    },
    "posts": {
        "swapped": "word", "word_behind": "word", "word_ahead": "word", "words_on": "word many", "post_of": "state",
        "state_at": "word offset", "far_next": "state many",
    },
    "reasons": {"why_next": "state", "backward_at": "state"},
    "pull_ways": {"chosen_ways": "word", "way_to_star": "word", "pulled_into": "word", "chosen_words": "pairs"},
    "books": {
        "chosen_book": "pairs", "next_by": "book state", "before_by": "book state", "post_by": "book state",
        "swapped_by": "book word", "word_behind_by": "book word",
    },
    "sewing": {"round_long": "book state", "steps_by": "book one other", "how_many_rounds": "book"},
    "check_books": {"judged_book": "book", "shows_book": "book value"},
    "companies": {"state_for": "company inside", "inside_for": "company state"},
    "evenings": {
        "evening": "company inside", "inside_next": "company inside", "night_before": "company inside",
        "inside_before": "company inside", "plan": "company inside many", "how_many_evenings": "company",
    },
    "walks": {"judged_walk": "states", "judged_round": "states"},
    "check_walks": {"shows_walk": "states value", "shows_round": "states value"},
    "ranks": {
        "word_rank": "word", "rank_of": "state", "word_ranked": "pairs rank", "state_ranked": "pairs rank",
    },
    "pictures": {"lamps_of": "states", "tree_picture": "word"},
    "desks": {"tell_all": "lines"},
}
# For each module its classes, with the names of their parameters, and those of their methods.
CLASSES = {
    "papers": {"Paper": ("word parts", {}), "Denial": ("word parts", {})},
    "reasons": {"Tie": ("kind by", {})},
    "books": {"Book": ("pairs words", {"read": "text"})},
    "check_books": {"OneRound": ("states", {}), "Rounds": ("many one other", {})},
    "companies": {"Company": ("names host", {})},
    "walks": {
        "Walk": ("states", {}), "Whole": ("states", {}), "Broken": ("at why", {}), "Lacks": ("state", {}),
    },
    "desks": {"Desk": ("", {"read": "text", "tell": "self line"})},
}

NO_WORD = [*NO_STRINGS, *NO_WORDS]
NO_STATE = [*NO_STRINGS, *NO_STATES]
NO_NUMBER = [*NO_INTEGERS, *HUGE[1:], -HUGE[1]]
NO_LIST = [*(value for value in NO_STRINGS if not isinstance(value, (list, tuple))), "10", "100"]
# For each parameter the error for what it cannot be, values that it cannot be, and one that it can.
PARAMETERS = {
    "word": (BadWord, NO_WORD, "110010"),
    "u": (BadWord, [value for value in NO_WORD if value != ""], "10"),
    "v": (BadWord, [value for value in NO_WORD if value != ""], "10"),
    "state": (BadState, NO_STATE, "1100100"),
    "ups": (BadTree, [*NO_LIST, [], [1], [0, 2], [True], ["0"], [0, Odd()], [0] * 201], [0]),
    "book": (BadBook, [*NO_STRINGS, "3 / 110010", Book], Book(3, ["110010"])),
    "company": (BadCompany, [*NO_STRINGS, "ann", Company], Company(list("abcdefgh"), "a")),
    "inside": (BadCompany, [*NO_STRINGS, list("abc"), list("abcx"), list("abca"), "abcd"], list("abcd")),
    "pairs": (BadNumber, [*NO_NUMBER, 0, -1, 201], 3),
    "number": (BadNumber, [*NO_NUMBER, -1, 5], 0),
    "rank": (BadNumber, [*NO_NUMBER, -1, 70], 0),
    "place": (BadNumber, [*NO_NUMBER, -1, 4], 0),
    "lamp": (BadNumber, [*NO_NUMBER, -1, 7], 2),
    "shift": (BadNumber, [*NO_NUMBER, -1, 7], 0),
    "offset": (BadNumber, [*NO_NUMBER, -1, 14], 0),
    "many": (BadNumber, NO_INTEGERS, 0),
    "lines": (BadText, [*NO_LIST, [1], ["who", None], "who"], []),
}
OF_ONE_AND_OTHER = {"are_one_tree": (BadWord, NO_WORD, "1100"), "steps_on": PARAMETERS["state"],
                    "steps_by": PARAMETERS["state"]}
OF_STATES = {"lamps_of": (BadState, [*NO_LIST, ["10"], [None]], []), **dict.fromkeys(
    ["judged_walk", "judged_round", "shows_walk", "shows_round"], (BadWalk, [*NO_LIST, [], [1] * 5001], ["100"]))}
# Any values may be passed for these, and none is refused.
ANY = ("value", "least", "most")


def function_of(module, name):
    return getattr(importlib.import_module(f"everyhalf.{module}"), name)


def told_of(function, parameter):
    """The error, the wrong values and a right value of a parameter of a function."""
    if parameter in ("one", "other"):
        return OF_ONE_AND_OTHER[function]
    return OF_STATES[function] if parameter == "states" else PARAMETERS[parameter]


def error_for(made, parameter):
    return BadText(0, 0) if made is BadText else made(parameter)


class Names(unittest.TestCase):
    def test_functions_stand_in_their_files_with_their_parameters(self):
        for module, functions in FUNCTIONS.items():
            for name, parameters in functions.items():
                function = function_of(module, name)
                self.assertTrue(inspect.isfunction(function), name)
                self.assertEqual(function.__module__, f"everyhalf.{module}")
                self.assertEqual(list(inspect.signature(function).parameters), parameters.split())

    def test_classes_stand_in_their_files_with_their_parameters(self):
        for module, classes in CLASSES.items():
            for name, (parameters, methods) in classes.items():
                made = function_of(module, name)
                self.assertTrue(inspect.isclass(made), name)
                self.assertEqual(made.__module__, f"everyhalf.{module}")
                self.assertEqual(list(inspect.signature(made).parameters), parameters.split())
                for method, names in methods.items():
                    self.assertIn(method, vars(made))
                    self.assertEqual(list(inspect.signature(getattr(made, method)).parameters), names.split())

    def test_errors_are_directly_below_half_error(self):
        for name, made in vars(errors).items():
            if inspect.isclass(made) and made is not HalfError:
                self.assertEqual((made.__bases__, made.__module__), ((HalfError,), "everyhalf.errors"), name)


class Refused(unittest.TestCase):
    def test_each_parameter_of_each_function(self):
        for module, functions in FUNCTIONS.items():
            for name, parameters in functions.items():
                names = parameters.split()
                if module in ("checks", "papers") or names == ["value"]:
                    continue
                function = function_of(module, name)
                right = {each: 1 if each in ANY else told_of(name, each)[2] for each in names}
                for each in names:
                    if each not in ANY:
                        made, wrong, _ = told_of(name, each)
                        self.check(function, right, each, error_for(made, each), wrong)

    def check(self, function, right, parameter, error, wrong):
        for value in wrong:
            given = {**right, parameter: value}
            with self.subTest(function=function.__name__, parameter=parameter):
                raised(error, function, **given)
                raised(error, function, *given.values())

    def test_the_first_wrong_parameter_is_told(self):
        for module, functions in FUNCTIONS.items():
            for name, parameters in functions.items():
                names = [each for each in parameters.split() if each not in ANY]
                if len(names) > 1:
                    function = function_of(module, name)
                    given = {each: told_of(name, each)[2] for each in names}
                    for each in reversed(names):
                        given[each] = None
                        raised(error_for(told_of(name, each)[0], each), function, **given)

    def test_classes(self):
        for value in NO_INTEGERS:
            raised(BadBook("pairs"), Book, value, None)
        for value in NO_LIST:
            raised(BadBook("words"), Book, 3, value)
            raised(BadCompany("names"), Company, value, None)
        for value in [*NO_STRINGS, "x"]:
            raised(BadCompany("host"), Company, list("abcd"), value)
        for value in NO_STRINGS:
            for call in (Book.read, Desk.read, Desk().tell):
                raised(BadText(0, 0), call, value)

    def test_functions_of_any_values_refuse_none(self):
        for module, name in [("checks", "is_integer"), ("checks", "is_signs"), ("words", "is_word"),
                             ("states", "is_state")]:
            for value in [*NO_STRINGS, *NO_INTEGERS, *HUGE, "10", "100", 7]:
                self.assertIn(function_of(module, name)(value), (True, False))


if __name__ == "__main__":
    unittest.main()
