"""The rounds of words by a book, told by its knots.

A *knot* is a word of the book, or such a word pulled: knots alone are swapped.
From every other word the round goes on by a turn, so the knots tell it all:
from a knot one comes to the one that it is swapped with, and then, turn by
turn, to the next knot of the tree of this one. A tree without a knot is a
round by itself.
"""

from everyhalf.pulls import pulled
from everyhalf.tree_names import how_many_trees
from everyhalf.words import gaps_of, moved_round


def spot_of(word):
    """The tree of the word, its period, and how many turns lead from the tree's first word to this one.

    The least gaps of its words tell the tree; its first word is the one that has them.
    """
    gaps = gaps_of(word)
    rows = [moved_round(gaps, turns) for turns in range(len(gaps))]
    least = min(rows)
    long = len(rows) // rows.count(least)
    return tuple(least), long, -rows.index(least) % long


def swaps_of(book):
    """For each knot of the book the knot that it is swapped with."""
    swaps = {}
    for word in book.words:
        swaps[word] = pulled(word)
        swaps[pulled(word)] = word
    return swaps


class Knots:
    """The knots of a book, and the rounds of words by the book.

    _trees has for each tree with knots its knots, each by the turns that lead
    to it from the tree's first word; _places has for each knot the number of
    its round, and how many words lead to it from the knot by which the round
    was found; _longs has for each round with knots how many words it has.
    """

    def __init__(self, book):
        self._pairs = book.pairs
        self._swaps = swaps_of(book)
        self._spots = {knot: spot_of(knot) for knot in self._swaps}
        self._trees = {}
        self._places = {}
        self._longs = []
        for knot in self._swaps:
            self._put_in_tree(knot)
        for knot in self._swaps:
            self._go_round(knot)

    def _put_in_tree(self, knot):
        tree, _, turns = self._spots[knot]
        if tree not in self._trees:
            self._trees[tree] = {}
        self._trees[tree][turns] = knot

    def _go_round(self, start):
        """Finds the places of all knots on the round of this one, unless they are known."""
        words = 0
        knot = start
        while knot not in self._places:
            self._places[knot] = (len(self._longs), words)
            tree, long, turns = self._spots[self._swaps[knot]]
            knot, ahead = self._knot_from(tree, long, turns + 1)
            words += 1 + ahead
        if words > 0:
            self._longs.append(words)

    def _knot_from(self, tree, long, turns):
        """The first knot from so many turns behind the tree's first word on, and how many turns lead to it."""
        knots = self._trees[tree]
        ahead = 0
        while (turns + ahead) % long not in knots:
            ahead += 1
        return knots[(turns + ahead) % long], ahead

    def how_many_rounds(self):
        """How many rounds there are."""
        return len(self._longs) + how_many_trees(self._pairs) - len(self._trees)

    def place_of_word(self, word):
        """What tells the word's round from all others, how many words it has, and how many lead there to the word."""
        tree, long, turns = spot_of(word)
        if tree not in self._trees:
            return tree, long, turns
        knot, ahead = self._knot_from(tree, long, turns)
        number, words = self._places[knot]
        return number, self._longs[number], (words - ahead) % self._longs[number]
