"""Steps of a round, whichever words are taken for the chosen ones.

Everywhere is_chosen is a function that tells of a word whether it is one of
them; each of them can be pulled. A place is told in homes.py.
"""

from everyhalf.homes import place_turned
from everyhalf.loops import place_back, place_on
from everyhalf.pulls import pulled, unpulled
from everyhalf.words import turned, turned_back, turned_by


def pulled_to(word, is_chosen):
    """The chosen word that is this one if it is pulled, or None."""
    if not word.startswith("101"):
        return None
    pull = unpulled(word)
    return pull if is_chosen(pull) else None


def word_swapped(word, is_chosen):
    """The word pulled if it is chosen, unpulled if it is a chosen one pulled, or else itself."""
    if is_chosen(word):
        return pulled(word)
    pull = pulled_to(word, is_chosen)
    return word if pull is None else pull


def word_next(word, is_chosen):
    """The word swapped, and then turned."""
    return turned(word_swapped(word, is_chosen))


def word_before(word, is_chosen):
    """The word that is this one if it is swapped, and then turned."""
    # Who swaps twice has the first word again.
    return word_swapped(turned_back(word), is_chosen)


def stretch_at(place, is_chosen):
    """The chosen word in whose stretch the place is, or None."""
    word, shift, high = place
    if not 1 <= shift <= 3 or (shift == 3 and not high):
        return None
    pull = turned_by(word, -shift)
    return pull if is_chosen(pull) else None


def place_next(place, is_chosen):
    """The place to which one step leads."""
    word, shift, high = place
    pull = stretch_at(place, is_chosen)
    if pull is not None:
        if high and shift == 1:
            return turned_by(pull, 3), 3, False
        return place_back(place)
    if shift == 0 and not high:
        if is_chosen(word):
            return turned(pulled(word)), 1, True
        pull = pulled_to(word, is_chosen)
        if pull is not None:
            return turned_by(pull, 3), 3, True
    return place_on(place)


def place_before(place, is_chosen):
    """The place from which one step leads to this one."""
    word, shift, high = place
    pull = stretch_at(place, is_chosen)
    if pull is not None:
        return (pulled(pull), 0, False) if shift == 3 else place_on(place)
    if shift == 3 and not high:
        pull = turned_by(word, -3)
        if is_chosen(pull):
            return turned(pull), 1, True
    if shift == 1 and high:
        pull = pulled_to(turned_back(word), is_chosen)
        if pull is not None:
            return pull, 0, False
    return place_back(place)


def post_at(place, is_chosen):
    """The post of the place: the word of the last low state with shift 0, and how many steps lead from there."""
    word, shift, high = place
    if shift == 0 and not high:
        return word, 0
    pull = stretch_at(place, is_chosen)
    if pull is not None:
        return pulled(pull), (7 if high else 6) - 2 * shift
    # With shift 0 the high state is one time round the circle behind the low one.
    turns = shift if shift > 0 else len(word) + 1
    return word_swapped(turned_by(word, -turns), is_chosen), 2 * turns - (1 if high else 0)


def steps_of_a_word(word):
    """How many steps lead from a word's low state with shift 0 to the next such state."""
    return 2 * (len(word) + 1)


def place_with_post(word, offset, is_chosen):
    """The place with this post."""
    if offset == 0:
        return word, 0, False
    high = offset % 2 == 1
    pull = pulled_to(word, is_chosen)
    if pull is not None and offset <= 5:
        return place_turned((pull, 0, high), (7 - offset) // 2)
    return place_turned((word_swapped(word, is_chosen), 0, high), (offset + 1) // 2)
