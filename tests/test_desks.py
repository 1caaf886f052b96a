"""Desks: against a desk that the tests keep themselves, on their own rounds."""

import random
import re
import unittest

from everyhalf.desks import Desk, tell_all
from everyhalf.errors import BadLine, BadText, HalfError, Nothing, TooMany
from everyhalf.homes import home_of, low_state
from everyhalf.loops import tree_at
from everyhalf.posts import far_next, post_of
from everyhalf.reasons import why_next
from everyhalf.rounds import next_state, state_before
from tests.helper import (
    HUGE, NO_INTEGERS, NO_STATES, NO_STRINGS, NO_WORDS, drawn_words, in_short_time, listed_states, listed_words,
    raised, told_chosen_words, told_homes, told_is_state, told_order, told_posts, told_reason, told_round, told_state,
    told_turns, told_word,
)

ASKING = ["who", "whence", "why", "home", "post", "tree", "lamps"]
STATES = {pairs: listed_states(pairs) for pairs in range(1, 5)}


class Round:
    """The round of so many pairs, and all that a desk is asked of its states."""

    def __init__(self, pairs):
        self.pulls = told_chosen_words(pairs)
        self.behind = told_round(pairs, self.pulls)
        self.order = told_order(self.behind, "1" * pairs + "0" * pairs + "0")
        self.places = {state: at for at, state in enumerate(self.order)}
        self.homes = told_homes(pairs)
        self.posts = told_posts(self.behind)

    def far(self, state, many):
        return self.order[(self.places[state] + many) % len(self.order)]

    def answer(self, line, state):
        word, shift, high = self.homes[state]
        return {
            "who": lambda: switched_lamp(state, self.far(state, 1)),
            "whence": lambda: switched_lamp(state, self.far(state, -1)),
            "why": lambda: " ".join(told_reason(state, self.behind[state], self.homes, self.pulls)),
            "home": lambda: f"{word} {shift} {'high' if high else 'low'}",
            "post": lambda: "{} {}".format(*self.posts[state]),
            "tree": lambda: min(told_turns(word)),
            "lamps": lambda: "".join(".*"[int(sign)] for sign in state),
        }[line]()


ROUNDS = {pairs: Round(pairs) for pairs in STATES}


def switched_lamp(one, other):
    lamp, = [at for at in range(len(one)) if one[at] != other[at]]
    return str(lamp)


class ToldDesk:
    """A desk that keeps all its states, with rounds of one to four pairs."""

    def __init__(self):
        self.log = []
        self.states = [None]

    def tell(self, line):
        word, _, item = line.partition(" ")
        state = self.states[-1]
        if word == "undo":
            self.log.pop()
            self.states.pop()
            return self.states[-1] or "-"
        if word in ASKING:
            return ROUNDS[len(state) // 2].answer(word, state)
        self.log.append(line)
        if word == "state":
            self.states.append(item)
        elif word == "word":
            self.states.append(told_state(item, 0, False))
        else:
            steps = int(item) if word == "next" else -int(item)
            self.states.append(ROUNDS[len(state) // 2].far(state, steps))
        return self.states[-1]


def drawn_kept(draw, has_state):
    """A line that is kept."""
    pairs = draw.choice([1, 2, 3, 4])
    many = draw.choice([1, 2, 3, 5, 9, draw.randint(1, 1000), 1000])
    lines = ["state " + draw.choice(STATES[pairs]), "word " + draw.choice(listed_words(pairs))]
    return draw.choice(lines + [f"next {many}", f"back {many}"] * 2 if has_state else lines)


def drawn_line(draw, has_state):
    """A line of any kind that a desk can be told."""
    kept = drawn_kept(draw, has_state)
    return draw.choice([kept, kept, kept, draw.choice(ASKING), "undo"]) if has_state else kept


def told_bad_item(line):
    """The first item of a line that cannot stand, None if it is a line."""
    items = line.split(" ")
    fits = {
        "state": told_is_state, "word": told_word,
        "next": lambda item: re.fullmatch("[1-9][0-9]{0,2}|1000", item, re.ASCII),
    }
    fits["back"] = fits["next"]
    if items[0] not in [*fits, *ASKING, "undo"]:
        return 0
    most = 2 if items[0] in fits else 1
    if most == 2 and (len(items) == 1 or not fits[items[0]](items[1])):
        return 1
    return most if len(items) > most else None


def told_bad_item_of_text(text):
    """The first item of a desk's text that cannot stand, None if it is such a text."""
    items = text.split(" ")
    if items[0] != "desk":
        return 0
    for at in range(1, len(items), 3):
        if items[at] != "/" or at > 300:
            return at
        line = items[at + 1:at + 3]
        if line:
            if line[0] not in (["state", "word"] if at == 1 else ["state", "word", "next", "back"]):
                return at + 1
            bad = told_bad_item(" ".join(line))
            if bad is not None:
                return at + 1 + bad
        else:
            return at + 1
    return None


BENDS = [
    "", "desk", "/", "//", "state", "word", "next", "back", "who", "undo", "lamps", "why", "Desk", "State", "100",
    "11000", "10", "1100", "110010", "1", "0", "-1", "01", "+1", "1000", "1001", "999", "1.0", "1_0", "\uff11",
    "\u0661", "1" * 140, "1" * 141, "9" * 5000, "x", "\t", "100\n", "next\n", "None", "-", "111", "101010",
]
LINES = [
    "state 100", "state 0110100", "word 10", "word 110010", "next 1", "next 1000", "back 7", *ASKING, "undo",
    "next 141", "word 1010",
]


class NewDesk(unittest.TestCase):
    def test_attributes(self):
        desk = Desk()
        self.assertIsNone(desk.state)
        self.assertEqual((desk.log, type(desk.log), str(desk)), ((), tuple, "desk"))

    def test_methods_stand_in_the_class_itself(self):
        for name in ("__init__", "__eq__", "__str__", "read", "tell"):
            self.assertIn(name, vars(Desk))

    def test_nothing_to_go_on_from(self):
        for line in [*ASKING, "undo", "next 1", "back 1", "next 1000"]:
            desk = Desk()
            raised(Nothing(), desk.tell, line)
            raised(Nothing(), desk.tell, line=line)
            self.assertEqual((desk.state, desk.log), (None, ()))

    def test_a_bad_line_comes_ahead(self):
        for line, item in [("who ", 1), ("next 0", 1), ("next", 1), ("undo 1", 1), ("back 1 1", 2), ("", 0)]:
            raised(BadText(0, item), Desk().tell, line)


class Told(unittest.TestCase):
    def check_same(self, desk, told):
        self.assertEqual(desk.state, told.states[-1])
        self.assertEqual(desk.log, tuple(told.log))
        self.assertIs(type(desk.log), tuple)
        self.assertEqual(str(desk), " / ".join(["desk", *told.log]))

    def test_drawn_lines(self):
        draw = random.Random("desks")
        for _ in range(60):
            desk, told = Desk(), ToldDesk()
            for at in range(60):
                line = drawn_line(draw, told.states[-1])
                answer = desk.tell(line) if at % 2 else desk.tell(line=line)
                self.assertEqual(answer, told.tell(line), line)
                self.assertIs(type(answer), str)
                self.check_same(desk, told)
            self.assertEqual(Desk.read(str(desk)), desk)
            self.assertEqual(Desk.read(str(desk)).state, desk.state)

    def test_each_answer_of_each_state(self):
        for pairs, states in STATES.items():
            for state in states[::1 if pairs < 4 else 5]:
                desk = Desk()
                self.assertEqual(desk.tell("state " + state), state)
                for line in ASKING:
                    self.assertEqual(desk.tell(line), ROUNDS[pairs].answer(line, state))
                    self.assertEqual((desk.state, desk.log), (state, ("state " + state,)))

    def test_each_word(self):
        for pairs in STATES:
            for word in listed_words(pairs):
                desk = Desk()
                self.assertEqual(desk.tell("word " + word), told_state(word, 0, False))
                self.assertEqual(desk.tell("home"), f"{word} 0 low")
                self.assertEqual(desk.tell("post"), f"{word} 0")

    def test_steps_on_and_back(self):
        for pairs, states in STATES.items():
            for many in [*range(1, 12), 99, 100, 500, 999, 1000]:
                state = states[many % len(states)]
                desk = Desk()
                desk.tell("state " + state)
                self.assertEqual(desk.tell(f"next {many}"), ROUNDS[pairs].far(state, many))
                self.assertEqual(desk.tell(f"back {many}"), state)
                self.assertEqual(desk.tell(f"back {many}"), ROUNDS[pairs].far(state, -many))

    def test_lines_that_ask_change_nothing(self):
        desk = Desk.read("desk / word 110010 / next 3")
        text, state = str(desk), desk.state
        for line in ASKING * 3:
            desk.tell(line)
            self.assertEqual((str(desk), desk.state), (text, state))

    def test_undo_down_to_nothing(self):
        draw = random.Random("undo")
        for many in (1, 2, 7, 40, 100):
            desk, told = Desk(), ToldDesk()
            for _ in range(many):
                line = drawn_kept(draw, told.states[-1])
                self.assertEqual(desk.tell(line), told.tell(line))
            for _ in range(many):
                self.assertEqual(desk.tell("undo"), told.tell("undo"))
                self.check_same(desk, told)
            self.assertEqual((desk.state, desk.log, desk == Desk()), (None, (), True))
            raised(Nothing(), desk.tell, "undo")
            raised(Nothing(), desk.tell, "who")
            self.assertEqual(desk.tell("word 10"), "100")

    def test_a_hundred_lines(self):
        desk = Desk()
        desk.tell("word 110010")
        for _ in range(99):
            desk.tell("next 1")
        state, text = desk.state, str(desk)
        for line in ("next 1", "back 1000", "state 100", "word 10"):
            raised(TooMany("lines", 100), desk.tell, line)
            self.assertEqual((desk.state, str(desk), len(desk.log)), (state, text, 100))
        for line, item in (("next 0", 1), ("state 10", 1), ("word 10 1", 2), ("x", 0)):
            raised(BadText(0, item), desk.tell, line)
        for line in ASKING:
            self.assertEqual(desk.tell(line), ROUNDS[3].answer(line, state))
        self.assertEqual(desk.tell("undo"), ROUNDS[3].far(state, -1))
        self.assertEqual(desk.tell("next 1"), state)
        raised(TooMany("lines", 100), desk.tell, "next 1")
        self.assertEqual(Desk.read(text), desk)

    def test_two_desks_beside_one_another(self):
        one, other = Desk(), Desk()
        one.tell("word 110010")
        self.assertEqual((other.state, other.log), (None, ()))
        other.tell("state 100")
        one.tell("next 2")
        self.assertEqual((other.state, other.log), ("100", ("state 100",)))
        self.assertEqual(other.tell("undo"), "-")
        self.assertEqual(one.log, ("word 110010", "next 2"))
        self.assertEqual(one.tell("undo"), "1100100")

    def test_an_error_changes_nothing(self):
        desk = Desk.read("desk / state 11000 / next 2")
        state = desk.state
        for value in [*NO_STRINGS, "next 0", "undo 1", "who ", "state 111", "word 01", "x", ""]:
            with self.assertRaises(BadText):
                desk.tell(value)
            self.assertEqual((desk.state, desk.log), (state, ("state 11000", "next 2")))

    def test_equal_exactly_if_their_logs_are(self):
        texts = ["desk", "desk / state 100", "desk / word 10", "desk / state 100 / next 6", "desk / state 110"]
        for one in texts:
            for other in texts:
                self.assertIs(Desk.read(one) == Desk.read(other), one == other)
                self.assertIs(Desk.read(one) != Desk.read(other), one != other)
            for other in [None, one, Desk.read(one).log, list(Desk.read(one).log), Desk]:
                self.assertIs(Desk.read(one) == other, False)
        desk = Desk.read("desk / state 100 / next 6")
        self.assertEqual(desk.state, Desk.read("desk / state 100").state)
        desk.tell("undo")
        self.assertTrue(desk == Desk.read("desk / state 100"))


class GreatStates(unittest.TestCase):
    def test_all_lines_in_a_short_time(self):
        for word in [*drawn_words("great desks", 3), "1" * 200 + "0" * 200, "10" * 200, "1100" * 100]:
            desk = Desk()
            start = in_short_time(desk.tell, "word " + word)
            self.assertEqual(start, low_state(word, 0))
            for line in ["next 1000", "back 999", "next 7", "state " + start[1:] + "0"]:
                if told_bad_item(line) is None:
                    in_short_time(desk.tell, line)
                self.check_answers(desk)
            self.assertEqual(far_next(start, 8), Desk.read(f"desk / word {word} / next 1000 / back 999 / next 7").state)

    def check_answers(self, desk):
        state = desk.state
        tie = why_next(state)
        for line, told in [
            ("who", switched_lamp(state, next_state(state))),
            ("whence", switched_lamp(state_before(state), state)),
            ("why", f"{tie.kind} {tie.by}"),
            ("home", "{} {} ".format(*home_of(state)) + ("high" if state.count("1") > len(state) // 2 else "low")),
            ("post", "{} {}".format(*post_of(state))),
            ("tree", tree_at(state)),
            ("lamps", state.replace("1", "*").replace("0", ".")),
        ]:
            self.assertEqual(in_short_time(desk.tell, line), told)

    def test_a_hundred_great_lines(self):
        for word in ["10", "1100", "110010", "1" * 60 + "0" * 60, "1" * 200 + "0" * 200]:
            text = " / ".join(["desk", "word " + word] + ["next 1000"] * 50 + ["back 1000"] * 49)
            desk = in_short_time(Desk.read, text)
            self.assertEqual((str(desk), len(desk.log)), (text, 100))
            self.assertEqual(in_short_time(desk.tell, "undo"), far_next(far_next(word + "0", 1000), 1000))
            lines = ["word " + word] + ["next 1000", "why", "undo", "tree"] * 50
            self.assertEqual(len(in_short_time(tell_all, lines)), 201)


class Lines(unittest.TestCase):
    def check(self, line):
        desk = Desk.read("desk / word 110010 / next 5")
        bad = told_bad_item(line)
        if bad is None:
            self.assertIs(type(desk.tell(line)), str)
        else:
            raised(BadText(0, bad), desk.tell, line)
            raised(BadText(0, bad), Desk().tell, line)

    def test_an_item_bent_at_any_place(self):
        for line in LINES:
            items = line.split(" ")
            self.check(line)
            for at in range(len(items) + 1):
                for bend in BENDS:
                    self.check(" ".join([*items[:at], bend, *items[at + 1:]]))
                    self.check(" ".join([*items[:at], bend, *items[at:]]))
                self.check(" ".join(items[:at]))
            self.check(line + "\n")
            self.check(line.replace(" ", "  "))
            self.check(line.upper())

    def test_what_is_no_state_or_word(self):
        for item in [*NO_STATES, *NO_WORDS]:
            self.check("state " + item)
            self.check("word " + item)

    def test_what_is_no_string(self):
        for value in [*NO_STRINGS, ["who"], ("state", "100"), Desk()]:
            raised(BadText(0, 0), Desk().tell, value)
            raised(BadText(0, 0), Desk().tell, line=value)

    def test_items(self):
        for line, item in [
            ("", 0), (" ", 0), ("who who", 1), ("state", 1), ("state ", 1), ("state 100 ", 2), ("state 100 110", 2),
            ("state 111 110", 1), ("word 100", 1), ("state 10", 1), ("next", 1), ("next 1 2", 2), ("next 01", 1),
            ("next 0 2", 1), ("next 1001", 1), ("next -1", 1), ("back 0", 1), ("back +3", 1), (" who", 0), ("who ", 1),
            ("read", 0), ("Next 1", 0), ("desk", 0), ("next " + "1" * 200, 1), ("undo undo", 1), ("next 1,000", 1),
        ]:
            raised(BadText(0, item), Desk().tell, line)
            self.assertEqual(told_bad_item(line), item)


class Texts(unittest.TestCase):
    def check(self, text):
        bad = told_bad_item_of_text(text)
        if bad is None:
            self.assertEqual(str(Desk.read(text)), text)
        else:
            raised(BadText(0, bad), Desk.read, text)

    def test_told_and_read(self):
        draw = random.Random("texts")
        for many in (0, 1, 2, 3, 30, 99, 100):
            desk = Desk()
            for _ in range(many):
                desk.tell(drawn_kept(draw, desk.state))
            text = str(desk)
            self.check(text)
            read = Desk.read(text=text)
            self.assertIs(type(read), Desk)
            self.assertEqual((read, read.state, read.log), (desk, desk.state, desk.log))
            for _ in range(many):
                self.assertEqual(read.tell("undo"), desk.tell("undo"))

    def test_bent_at_any_place(self):
        for text in [
            "desk", "desk / state 100", "desk / word 110010 / next 1 / back 2",
            "desk / state 11000 / word 10 / next 1000",
        ]:
            items = text.split(" ")
            for at in range(len(items) + 1):
                for bend in BENDS:
                    self.check(" ".join([*items[:at], bend, *items[at + 1:]]))
                    self.check(" ".join([*items[:at], bend, *items[at:]]))
                self.check(" ".join([*items[:at], *items[at + 1:]]))
                self.check(" ".join(items[:at]))
                self.check(" ".join([*items[:at], "/", "next", "1", *items[at:]]))

    def test_items(self):
        for text, item in [
            ("", 0), ("desk ", 1), ("desk /", 2), ("desk / ", 2), ("desk / word", 3), ("desk / word ", 3),
            ("desk / word 10 ", 4), ("desk / word 10 / who", 5), ("desk / word 10 / undo", 5), ("desk / undo", 2),
            ("desk / next 1", 2), ("desk / back 1", 2), ("desk / who", 2), ("desk / word 10 / next", 6),
            ("desk / word 10 / next 0", 6), ("desk / word 10 / next 01", 6), ("desk / word 10 next 1", 4),
            ("desk / word 100", 3), ("desk / state 10", 3), ("Desk", 0), ("desk/", 0), ("desk state 100", 1),
            ("desk / word 10 11", 4), ("desk / state 100 / next 1 /", 8), ("desk / state 100 / next 1 2", 7),
        ]:
            raised(BadText(0, item), Desk.read, text)
            self.assertEqual(told_bad_item_of_text(text), item)

    def test_behind_a_hundred_lines(self):
        text = "desk / state 100" + " / next 1" * 99
        self.assertEqual(len(Desk.read(text).log), 100)
        for more in (" /", " / next 1", " / who", " x", " ", " / next 0"):
            raised(BadText(0, 301), Desk.read, text + more)
        raised(BadText(0, 301), in_short_time, Desk.read, text + " / next 1000" * 1000)

    def test_what_is_no_string(self):
        for value in [*NO_STRINGS, Desk(), ["desk"], ("desk",)]:
            raised(BadText(0, 0), Desk.read, value)
            raised(BadText(0, 0), Desk.read, text=value)


class TellAll(unittest.TestCase):
    def test_drawn_lines(self):
        draw = random.Random("all")
        for many in (0, 1, 5, 40, 90):
            told, lines, answers = ToldDesk(), [], []
            for _ in range(many):
                lines.append(drawn_line(draw, told.states[-1]))
                answers.append(told.tell(lines[-1]))
            for given in (list(lines), tuple(lines)):
                self.assertEqual(tell_all(given), tuple(answers))
                self.assertEqual(tell_all(lines=given), tuple(answers))
                self.assertIs(type(tell_all(given)), tuple)

    def check(self, lines, at, told):
        for given in (list(lines), tuple(lines)):
            with self.assertRaises(BadLine) as caught:
                tell_all(given)
            error = caught.exception
            self.assertIs(type(error), BadLine)
            self.assertEqual((error.line, set(vars(error))), (at, {"line", "error"}))
            self.assertIs(type(error.line), int)
            self.assertIs(type(error.error), type(told))
            self.assertEqual(vars(error.error), vars(told))
            self.assertIsInstance(error.error, HalfError)

    def test_the_first_line_that_raises(self):
        for lines, at, told in [
            (["who"], 0, Nothing()),
            (["word 10", "undo", "undo"], 2, Nothing()),
            (["word 10", "undo", "next 1", "x"], 2, Nothing()),
            (["word 10", "next 0", "undo", "undo"], 1, BadText(0, 1)),
            ([""], 0, BadText(0, 0)),
            (["state 100", "state 100 ", "who who"], 1, BadText(0, 2)),
            (["state 100"] + ["who"] * 300 + ["next"], 301, BadText(0, 1)),
            (["state 100"] * 101, 100, TooMany("lines", 100)),
            (["state 100"] * 100 + ["why", "next 1", "x"], 101, TooMany("lines", 100)),
        ]:
            self.check(lines, at, told)

    def test_what_is_no_list_of_strings(self):
        for value in [*NO_STRINGS, *NO_INTEGERS, *HUGE, "word 10", "", Desk(), {"word 10"}, {"word 10": 1}]:
            if not isinstance(value, (list, tuple)):
                raised(BadText(0, 0), tell_all, value)
                raised(BadText(0, 0), tell_all, lines=value)
        for value in [*NO_STRINGS, [["who"]], [1]]:
            for lines in ([value], ["word 10", value], ["x", value], (value, "word 10"), ["undo", "word 10", value]):
                raised(BadText(0, 0), tell_all, lines)


if __name__ == "__main__":
    unittest.main()
