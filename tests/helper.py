"""What the tests share: values of all kinds, errors that are wanted, drawn words, examples as DOC.md prints them."""

import importlib
import random
import time
from functools import cache
from itertools import combinations, product
from pathlib import Path

EXAMPLES = Path(__file__).resolve().parent / "examples"

# What one call may last, much more than it does, as machines differ; what is worked out in a bad way lasts longer.
SHORT = 2.0


class Odd:
    """A value that is equal to everything, and can not be written out."""

    def __eq__(self, other):
        return True

    def __repr__(self):
        raise RuntimeError("cannot be written out")


NO_INTEGERS = [
    None, True, False, 0.0, 1.0, float("nan"), 2j, "", "1", b"1", [], [1], (), (1,), {}, {1: 1}, set(), range(3),
    object(), Odd(), len, ValueError("1"),
]
NO_STRINGS = [
    None, True, False, 0, 1, 10, 1100, -1, 10 ** 400, -(10 ** 400), 1.0, b"", b"10", [], ["1", "0"], ("1", "0"),
    ["10"], {}, {"10": "10"}, {"1", "0"}, range(10), object(), Odd(), str, iter("10"),
]
HUGE = [10 ** 30, 10 ** 5000, 2 ** 100000]
# Signs that are digits for Python, or look like them, or stand at the end of a line.
NO_SIGNS = ["2", "a", " ", "\n", "\r", "\t", "\0", "-", "l", "O", "\u0661", "\uff11", "\u00b9", "\u2080"]

# Strings that are no words; "100" and "110" are states.
NO_WORDS = [
    "", "1", "0", "01", "11", "00", "100", "110", "0110", "1001", "1101", "0101", "111", "1010101", "10 ", " 10",
    "10\n", "\n10", "1 0", "1-0", "12", "20", "1o", "\uff11\uff10", "10" * 201, "1" * 201 + "0" * 201, "10" * 10000,
    "1" * 200 + "0" * 199, "1" * 200 + "0" * 201, "10" * 200 + "\n",
]

# Strings that are no states; "10" and "1100" are words.
NO_STATES = [
    "", "0", "1", "01", "10", "000", "111", "1010", "1100", "00001", "11110", "10 ", "100 ", " 100", "100\n", "1o0",
    "120", "\uff11\uff10\uff10", "1 0 0", "10" * 201 + "0", "10" * 201 + "1",
    "1" * 199 + "0" * 202, "1" * 202 + "0" * 199, "10" * 200, "10" * 10000, "10" * 9999 + "0",
]


def typed_fields(error):
    """The fields of an error with the class of each, as 1 and True are alike otherwise."""
    return {name: (type(value), value) for name, value in vars(error).items()}


def raised(wanted, call, *args, **more):
    """Fails unless the call raises just this error: its class and its fields."""
    try:
        value = call(*args, **more)
    except type(wanted) as error:
        assert type(error) is type(wanted), type(error)
        assert typed_fields(error) == typed_fields(wanted), (vars(error), vars(wanted))
        return
    raise AssertionError(f"{call.__name__} returned {value!r} and did not raise {wanted!r}")


def raised_class(wanted, call):
    """Fails unless the call raises an error of just this class, whatever its fields are."""
    try:
        value = call()
    except wanted as error:
        assert type(error) is wanted, type(error)
        return
    raise AssertionError(f"returned {value!r} and did not raise {wanted!r}")


def in_short_time(call, *args, **more):
    """What the call returns; fails if this takes long."""
    start = time.perf_counter()
    value = call(*args, **more)
    spent = time.perf_counter() - start
    assert spent < SHORT, f"{call.__name__} took {spent:.2f} seconds"
    return value


def all_signs(length):
    """All strings of so many signs 0 and 1, ascending."""
    return ["".join(signs) for signs in product("01", repeat=length)]


def told_word(text):
    """Whether a string is a word, as [4] tells it: beginning by beginning."""
    signs = all(sign in "01" for sign in text)
    balanced = text.count("1") == text.count("0") and 2 <= len(text) <= 400
    return signs and balanced and all(
        text[:end].count("0") <= text[:end].count("1") for end in range(len(text) + 1)
    )


def listed_words(pairs):
    """All words of so many pairs, ascending."""
    return [signs for signs in all_signs(2 * pairs) if told_word(signs)]


def drawn_word(draw, pairs):
    """A word of so many pairs, drawn by a random.Random; long branches and short ones both come."""
    up, word, height, left = draw.choice([0.3, 0.5, 0.6, 0.75, 0.9]), "", 0, pairs
    while left or height:
        if left and (height == 0 or draw.random() < up):
            word, height, left = word + "1", height + 1, left - 1
        else:
            word, height = word + "0", height - 1
    return word


def drawn_words(seed, many, most=200):
    """Words of 1 to most pairs, some of the greatest among them, and always the same for one seed."""
    draw = random.Random(seed)
    pairs = [most, most - 1, *[draw.randint(1, most) for _ in range(many - 2)]]
    return [drawn_word(draw, each) for each in pairs]


def told_pair(word):
    """The first pair (u, v) as [4] tells it: up to the first 0 at which as many 0 as 1 stood."""
    many = {"1": 0, "0": 0}
    for at, sign in enumerate(word):
        many[sign] += 1
        if many["0"] == many["1"]:
            return word[1:at], word[at + 1:]
    raise AssertionError("no word")


def told_turned(word):
    u, v = told_pair(word)
    return u + "1" + v + "0"


def told_turned_back(word):
    """The word 1 u 0 v of the word u 1 v 0, as [4] tells it: up to the last 1 ahead of which as many 0 as 1 stand."""
    for at in reversed(range(len(word))):
        if word[at] == "1" and word[:at].count("1") == word[:at].count("0"):
            return "1" + word[:at] + "0" + word[at + 1:-1]
    raise AssertionError("no word")


def told_turns(word):
    """The word and all words into which it is turned, until it comes again."""
    turns = [word]
    while told_turned(turns[-1]) != word:
        turns.append(told_turned(turns[-1]))
    return turns


def told_ties(word):
    """The tree of the word as [5] tells it: for each place the places tied to it in turn, its up place first."""
    ties, here, ways_back = {0: []}, 0, []
    for sign in word:
        if sign == "1":
            new = len(ties)
            ties[here].append(new)
            ties[new] = [here]
            ways_back.append(here)
            here = new
        else:
            here = ways_back.pop()
    return ties


def told_ways(ties, place):
    """How many ties lead from the place to each place, by going out from it."""
    ways, edge = {place: 0}, [place]
    while edge:
        edge = [(to, ways[at] + 1) for at in edge for to in ties[at] if to not in ways]
        ways.update(edge)
        edge = [to for to, _ in edge]
    return ways


def told_least_sum(word):
    ties = told_ties(word)
    return min(sum(told_ways(ties, place).values()) for place in ties)


def told_state(word, shift, high):
    """The state at this home, put together lamp by lamp."""
    lamps = [""] * (len(word) + 1)
    for at, sign in enumerate(word + "01"[high]):
        lamps[(shift + at) % len(lamps)] = sign
    return "".join(lamps)


def told_is_state(value):
    """Whether any value is a string of an odd number of lamps, of which about half burn."""
    if not isinstance(value, str) or not set(value) <= {"0", "1"}:
        return False
    pairs, rest = divmod(len(value), 2)
    return rest == 1 and 1 <= pairs <= 200 and value.count("1") in (pairs, pairs + 1)


def listed_states(pairs):
    """All states of so many pairs, ascending."""
    return [signs for signs in all_signs(2 * pairs + 1) if told_is_state(signs)]


def told_order(behind, start):
    """All that comes on the round from the start on, in order."""
    order = [start]
    while behind[order[-1]] != start:
        order.append(behind[order[-1]])
    return order


def told_homes(pairs):
    """For each state of so many pairs the word and the shift of its home, and whether it is high."""
    return {
        told_state(word, shift, high): (word, shift, high)
        for word in listed_words(pairs) for shift in range(2 * pairs + 1) for high in (False, True)
    }


def told_last_partner(word, shift, high):
    return told_state(word, shift, not high)


def told_turn_partner(word, shift, high):
    if high:
        return told_state(told_turned_back(word), (shift - 1) % (len(word) + 1), False)
    return told_state(told_turned(word), (shift + 1) % (len(word) + 1), True)


def told_inner(word):
    """The u of a word 1 1 0 u 0 v."""
    return told_pair(word)[0][2:]


def told_right(word):
    """Whether the word is 1 1 0 u 0 v with at most n - 3 signs in u."""
    return word[:3] == "110" and len(told_inner(word)) <= len(word) // 2 - 3


def told_chosen(word):
    """The chosen word of the tree of the word, None if there is none."""
    return min((each for each in told_turns(word) if told_right(each)), default=None)


def told_chosen_words(pairs):
    """The chosen words of so many pairs."""
    return {told_chosen(word) for word in listed_words(pairs)} - {None}


def told_ring(word):
    """The ring of a word that can be pulled, as [8] tells it: by the three lamps that burn, or do not."""
    behind = 3 + len(told_inner(word))
    states = []
    for burning in [(1,), (1, 2), (2,), (2, behind), (behind,), (1, behind)]:
        lamps = list(word + "0")
        for lamp in (1, 2, behind):
            lamps[lamp] = "1" if lamp in burning else "0"
        states.append("".join(lamps))
    return states


def told_round(pairs, pulls):
    """The next state of each state of so many pairs, by these words in the place of the chosen ones.

    The loops are taken as rows of ties without a way along them; in each ring its three ties of loops are taken
    away, and the three others are put in. No low state with shift 0 goes on to its last partner.
    """
    homes = told_homes(pairs)
    near = {state: {told_last_partner(*home), told_turn_partner(*home)} for state, home in homes.items()}
    for word in pulls:
        x_low, y_high, y_low, z, a, x_high = told_ring(word)
        for one, other in [(x_low, x_high), (y_low, y_high), (z, a)]:
            near[one].remove(other)
            near[other].remove(one)
        for one, other in [(x_low, y_high), (y_low, z), (x_high, a)]:
            near[one].add(other)
            near[other].add(one)
    behind = {}
    for state, (word, shift, high) in homes.items():
        if shift == 0 and not high:
            came_from, here = told_last_partner(word, shift, high), state
            while here not in behind:
                behind[here], = near[here] - {came_from}
                came_from, here = here, behind[here]
    assert len(behind) == len(homes) == len(set(behind.values()))
    return behind


def told_swapped(word, pulls):
    """The word swapped, these words being the chosen ones."""
    if word in pulls:
        return "101" + word[3:]
    if word[:3] == "101" and "110" + word[3:] in pulls:
        return "110" + word[3:]
    return word


def told_posts(behind):
    """For each state its post, by going on from each low state with shift 0 to the next one."""
    word_at_0 = {told_state(word, 0, False): word for word in listed_words(len(next(iter(behind))) // 2)}
    posts = {}
    for start, word in word_at_0.items():
        here, offset = start, 0
        while offset == 0 or here not in word_at_0:
            posts[here] = (word, offset)
            here, offset = behind[here], offset + 1
    return posts


def told_stretch(word):
    """The five states that are the stretch of a chosen word, in their order."""
    turns = told_turns(word) * 4
    return [told_state(turns[shift], shift, high) for shift, high in [(3, 1), (2, 0), (2, 1), (1, 0), (1, 1)]]


def told_reason(state, behind, homes, pulls):
    """Kind and word of the tie from the state to the one behind it."""
    word = homes[state][0]
    if behind == told_last_partner(*homes[state]):
        return "last", word
    if behind == told_turn_partner(*homes[state]):
        return "turn", word
    both, = [pull for pull in pulls if {state, behind} <= set(told_ring(pull))]
    return "ring", both


@cache
def listed_pulls(pairs):
    """All words of so many pairs that can be pulled, ascending."""
    return [word for word in listed_words(pairs) if word[:3] == "110"]


@cache
def books_of_words():
    """Numbers of pairs, each with words that a book may have: none, one, all, the chosen ones, some of them."""
    draw = random.Random("books")
    books = []
    for pairs in range(2, 6):
        pulls = listed_pulls(pairs)
        some = [draw.sample(pulls, draw.randint(0, len(pulls))) for _ in range(6)]
        for words in [[], pulls[:1], pulls[-1:], pulls, sorted(told_chosen_words(pairs)), *some]:
            books.append((pairs, words))
    return [*books, (6, draw.sample(listed_pulls(6), 20))]


def great_pulls(pairs, many):
    """So many unlike words of so many pairs that can be pulled."""
    draw, words = random.Random(f"{pairs} {many}"), {}
    while len(words) < many:
        word = drawn_word(draw, pairs)
        if word[:3] in ("110", "101"):
            words["110" + word[3:]] = True
    return list(words)


def told_places(behind):
    """For each item its round, how long this is, and the item's place on it, by going from item to item behind it."""
    places = {}
    for start in behind:
        order = []
        while start not in places and (not order or start != order[0]):
            order.append(start)
            start = behind[start]
        places.update({item: (order[0], len(order), at) for at, item in enumerate(order)})
    return places


@cache
def told_books():
    """The books of books_of_words and one with more words than trees, and yet one round; each with its states' places.

    They are told by pairs, words and places.
    """
    rings = "1100101100 1101001010 1101001100 1101010100 1101011000 1101101000 1101110000".split()
    return [(pairs, words, told_places(told_round(pairs, words))) for pairs, words in [*books_of_words(), (5, rings)]]


def rounds_in(places):
    """How many rounds there are."""
    return len({first for first, _, _ in places.values()})


# In no order of theirs.
NAMES = ["mo", "ann", "z", "bartholomewa", "cy", "aa", "eve", "dot"]


def told_companies():
    """The names and the host of companies of 4, 6 and 8, the host anywhere."""
    return [(NAMES[:many], host) for many in (4, 6, 8) for host in NAMES[:many]]


def told_lamps(names, host, inside):
    """The state of a half: a lamp for each name but the host's."""
    return "".join("1" if name in inside else "0" for name in names if name != host)


def told_halves(names):
    """All halves of these names, in their order."""
    return [list(half) for half in combinations(names, len(names) // 2)]


def great_names(many):
    """So many unlike names of 1 to 12 letters."""
    letters = "etaoinshrdlu"
    names = [one + other for one in letters for other in letters] + list(letters)
    names += [letters[at % 12] * 4 + name for at, name in enumerate(names)] + [name + "qzxjkvbpyg" for name in names]
    return random.Random("names").sample(names, many)


def example_names(modules):
    """All names of these modules of the package, as the examples use them without imports."""
    names = {}
    for module in modules:
        names.update(vars(importlib.import_module(f"everyhalf.{module}")))
    return names


def examples_in(module):
    """The examples of a module: pairs of what is called and of what is printed below, None for nothing."""
    rows = (EXAMPLES / f"{module}.txt").read_text(encoding="utf-8").splitlines()
    return [
        (row[4:], below if below and not below.startswith(">>> ") else None)
        for row, below in zip(rows, rows[1:] + [None])
        if row.startswith(">>> ")
    ]


def check_example(call, printed, names):
    """Fails unless the call prints, or raises, just what is told; a call without a value is done."""
    if printed is None:
        exec(call, names)
    elif printed.startswith("raises "):
        wanted = eval(printed[len("raises "):], names)
        if isinstance(wanted, type):
            raised_class(wanted, lambda: eval(call, names))
        else:
            raised(wanted, lambda: eval(call, names))
    else:
        value = repr(eval(call, names))
        assert value == printed, f"{call} is {value}"
