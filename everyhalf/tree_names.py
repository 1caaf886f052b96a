"""The names of trees, and how many trees there are."""

from math import comb, gcd

from everyhalf.checks import check_pairs
from everyhalf.errors import Misfit
from everyhalf.word_numbers import all_words, how_many_words
from everyhalf.words import check_word, mirrored_word, turns_of


def name_of(word):
    """The name of the tree of the word: the least of its words."""
    return min(turns_of(word))


def mirrored_tree(word):
    """The name of the tree of the mirrored word."""
    return name_of(mirrored_word(word))


def are_one_tree(one, other):
    """Whether two words of as many pairs draw one tree."""
    check_word(one, "one")
    check_word(other, "other")
    if len(one) != len(other):
        raise Misfit("other")
    return other in turns_of(one)


def star(pairs):
    """The name of the star of so many ties."""
    check_pairs(pairs)
    return "10" * pairs


def line(pairs):
    """The name of the line of so many ties."""
    check_pairs(pairs)
    return name_of("1" * pairs + "0" * pairs)


def how_many_trees(pairs):
    """How many trees have so many ties."""
    check_pairs(pairs)
    # A tree has one place more than ties, and a word tells a tree with a way along a tie.
    return _with_place(pairs) + _with_tie(pairs) - how_many_words(pairs)


def _with_tie(pairs):
    """How many trees have so many ties and one of them told."""
    # A tree that looks alike from both ends of the tie counts whole, the others by halves.
    turned_round = 0
    if pairs == 1:
        turned_round = 1
    elif pairs % 2 == 1:
        turned_round = how_many_words(pairs // 2)
    return (how_many_words(pairs) + turned_round) // 2


def _with_place(pairs):
    """How many trees have so many ties and a place told."""
    divisors = [many for many in range(1, pairs + 1) if pairs % many == 0]
    return sum([_coprime(pairs // many) * comb(2 * many, many) for many in divisors]) // (2 * pairs)


def _coprime(number):
    """How many integers from 1 to the number have no common divisor with it but 1."""
    return len([each for each in range(1, number + 1) if gcd(each, number) == 1])


def all_trees(pairs):
    """The names of all trees with so many ties, ascending."""
    names = []
    seen = {}
    for word in all_words(pairs):
        # The words come ascending: the first one of a tree is the least.
        if word not in seen:
            names.append(word)
            for each in turns_of(word):
                seen[each] = True
    return tuple(names)
