"""Texts: strings of items with single blanks between."""

from everyhalf.errors import BadText

MOST_DIGITS = 140


def items_of(text):
    """The items of a text; an empty item is an item, too."""
    if not isinstance(text, str):
        raise BadText(0, 0)
    return text.split(" ")


def integer_in(item):
    """The integer that is written so; None if none is."""
    digits = item[1:] if item.startswith("-") else item
    if not 1 <= len(digits) <= MOST_DIGITS or not all([sign in "0123456789" for sign in digits]):
        return None
    if digits.startswith("0") and item != "0":
        return None
    return int(item)
