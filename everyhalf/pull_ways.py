"""The tree of all trees: from each tree, pull by pull, to the star."""

from everyhalf.pulls import chosen_word, is_chosen, pulled
from everyhalf.steps import pulled_to
from everyhalf.tree_names import all_trees, name_of
from everyhalf.words import turns_of


def chosen_ways(word):
    """The chosen words on the way of its tree to the star."""
    pulls = []
    pull = chosen_word(word)
    while pull is not None:
        pulls.append(pull)
        pull = chosen_word(pulled(pull))
    return tuple(pulls)


def way_to_star(word):
    """The names of the trees on the way of its tree to the star, its own first."""
    return tuple([name_of(word)] + [name_of(pulled(pull)) for pull in chosen_ways(word)])


def pulled_into(word):
    """The names of all trees whose chosen word, pulled, is a word of its tree, ascending."""
    pulls = [pulled_to(each, is_chosen) for each in turns_of(word)]
    return tuple(sorted([name_of(pull) for pull in pulls if pull is not None]))


def chosen_words(pairs):
    """All chosen words of so many pairs, ascending."""
    pulls = [chosen_word(name) for name in all_trees(pairs)]
    return tuple(sorted([pull for pull in pulls if pull is not None]))
