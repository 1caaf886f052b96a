"""The tree that a word draws: its places, ties, ways and middles."""

from everyhalf.checks import MOST_PAIRS, check_number, is_integer
from everyhalf.errors import BadTree
from everyhalf.words import check_word


def ups_of(word):
    """The up places of the places 1, 2, .. n."""
    check_word(word, "word")
    ups = []
    path = [0]
    for sign in word:
        if sign == "1":
            ups.append(path[-1])
            path.append(len(ups))
        else:
            path.pop()
    return tuple(ups)


def word_of(ups):
    """The word of which these are the up places."""
    _check_places(ups)
    signs = []
    path = [0]
    for place, up in enumerate(ups, start=1):
        while path and path[-1] != up:
            path.pop()
            signs.append("0")
        if not path:
            raise BadTree("ups")
        path.append(place)
        signs.append("1")
    return "".join(signs) + "0" * (len(path) - 1)


def _check_places(ups):
    if not isinstance(ups, (list, tuple)) or not 1 <= len(ups) <= MOST_PAIRS:
        raise BadTree("ups")
    if not all([is_integer(up) for up in ups]):
        raise BadTree("ups")


def around(word, place):
    """The places tied to a place in turn, its up place first."""
    ups = ups_of(word)
    check_number(place, 0, len(ups), "place")
    first = [ups[place - 1]] if place > 0 else []
    return tuple(first + [child for child, up in enumerate(ups, start=1) if up == place])


def ways_from(word):
    """The sums of the places 0, 1, .. n: of each one its ways to all places, added."""
    ups = ups_of(word)
    sizes = _sizes(ups)
    sums = [sum(sizes[1:])]
    for place, up in enumerate(ups, start=1):
        # A step up this tie is one nearer to these places, and one farther from all others.
        sums.append(sums[up] + len(sizes) - 2 * sizes[place])
    return tuple(sums)


def _sizes(ups):
    """How many places each place has above it, itself counted."""
    sizes = [1] * (len(ups) + 1)
    for place in reversed(range(1, len(sizes))):
        sizes[ups[place - 1]] += sizes[place]
    return sizes


def least_sum(word):
    """The least sum of a place of the tree."""
    return min(ways_from(word))


def middles(word):
    """The places that have the least sum, ascending."""
    sums = ways_from(word)
    least = min(sums)
    return tuple([place for place, each in enumerate(sums) if each == least])


def leaves(word):
    """The places with one tie, ascending."""
    ups = ups_of(word)
    # Each place has a tie for each of its children, and all but the root one up.
    ties = [0] + [1] * len(ups)
    for up in ups:
        ties[up] += 1
    return tuple([place for place, many in enumerate(ties) if many == 1])
