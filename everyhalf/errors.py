"""The errors of the package; each keeps its fields in attributes.

None makes a wording out of its fields: they may be any values, and some of
them, like an integer of very many digits, cannot be written out.
"""


class HalfError(ValueError):
    """The base of all errors of the package; nothing is made of it alone."""


class BadNumber(HalfError):
    """What is no integer, or not within the bounds."""

    def __init__(self, part):
        self.part = part


class BadWord(HalfError):
    """What is no word."""

    def __init__(self, part):
        self.part = part


class BadState(HalfError):
    """What is no state."""

    def __init__(self, part):
        self.part = part


class BadTree(HalfError):
    """What is no list of the up places of a word."""

    def __init__(self, part):
        self.part = part


class BadBook(HalfError):
    """What is no book of pulls, or makes none."""

    def __init__(self, part):
        self.part = part


class BadCompany(HalfError):
    """What is no company, or makes none, or is no half of it."""

    def __init__(self, part):
        self.part = part


class BadWalk(HalfError):
    """What is no list that could be judged as a walk."""

    def __init__(self, part):
        self.part = part


class Misfit(HalfError):
    """What does not fit together with the rest."""

    def __init__(self, part):
        self.part = part


class TooMany(HalfError):
    """There are more than most of something."""

    def __init__(self, what, most):
        self.what = what
        self.most = most


class Nothing(HalfError):
    """There is nothing to go on from, or to take back."""


class BadText(HalfError):
    """A text in which an item cannot stand; its line is always 0."""

    def __init__(self, line, item):
        self.line = line
        self.item = item


class BadLine(HalfError):
    """The number of a line, and the error that was raised there."""

    def __init__(self, line, error):
        self.line = line
        self.error = error
