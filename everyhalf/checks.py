"""Checks of any values: integers, bounds, signs."""

from everyhalf.errors import BadNumber

MOST_PAIRS = 200


def is_integer(value):
    """Whether the value is an integer; True and False are none."""
    return isinstance(value, int) and not isinstance(value, bool)


def is_within(value, least, most):
    """Whether the value is an integer from least to most; None is no bound."""
    if not is_integer(value):
        return False
    if least is not None and value < least:
        return False
    return most is None or value <= most


def is_signs(value):
    """Whether the value is a string of signs 0 and 1, perhaps of none."""
    return isinstance(value, str) and value.count("0") + value.count("1") == len(value)


def is_same(value, wanted):
    """Whether any value is this integer, or this string; True and False stand for no number."""
    if is_integer(wanted):
        return is_integer(value) and value == wanted
    return isinstance(value, str) and value == wanted


def check_number(value, least, most, part):
    """Raises BadNumber(part) unless the value is an integer from least to most."""
    if not is_within(value, least, most):
        raise BadNumber(part)


def check_pairs(pairs):
    """Raises BadNumber("pairs") unless this is a number of pairs."""
    check_number(pairs, 1, MOST_PAIRS, "pairs")
