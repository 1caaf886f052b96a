"""Papers: each tells an answer and what shows it."""

from everyhalf.checks import is_same


def fixed(value):
    """The value with tuples in the place of lists, all the way in."""
    if isinstance(value, (list, tuple)):
        return tuple([fixed(item) for item in value])
    return value


def are_equal_papers(one, other):
    """Whether two values, the first one a paper, are equal papers."""
    return type(one) is type(other) and one.word == other.word and one.parts == other.parts


def is_just(value, paper):
    """Whether any value is a paper of the class of this one and with its parts, which are integers and strings."""
    if type(value) is type(paper):
        return all([is_same(part, wanted) for part, wanted in zip(value.parts, paper.parts)])
    return False


class Paper:
    """A paper: the name of its class in small letters, and its parts; true."""

    def __init__(self, word, *parts):
        self.word = fixed(word)
        self.parts = fixed(parts)

    def __eq__(self, other):
        return are_equal_papers(self, other)

    def __bool__(self):
        return True


class Denial(Paper):
    """A paper that says no; false."""

    def __init__(self, word, *parts):
        super().__init__(word, *parts)

    def __eq__(self, other):
        return are_equal_papers(self, other)

    def __bool__(self):
        return False
