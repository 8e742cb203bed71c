"""Reading texts: items with single blanks between."""

from math import gcd

from mapflow.checks import is_within
from mapflow.errors import BadText

MOST_DIGITS = 2000


def items_of(text):
    """The items of a text, empty ones too."""
    if not isinstance(text, str):
        raise BadText(0, 0)
    return text.split(" ")


def item_at(items, at):
    """The item at an index, None behind the last one."""
    return items[at] if at < len(items) else None


def want_item(items, at, wanted):
    """Wants this item at an index; None wants the end of the text there."""
    if item_at(items, at) != wanted:
        raise BadText(0, at)


def integer_of(item):
    """The integer that an item writes, None if it writes none."""
    digits = item.removeprefix("-")
    # isdigit alone would take the digits of other scripts, too.
    if not (digits.isascii() and digits.isdigit()) or len(digits) > MOST_DIGITS:
        return None
    if digits[0] == "0" and item != "0":
        return None
    return int(item)


def integer_at(items, at, least, most):
    """The integer that stands at an index, from least to most; a bound None does not bound."""
    item = item_at(items, at)
    number = None if item is None else integer_of(item)
    if not is_within(number, least, most):
        raise BadText(0, at)
    return number


def fraction_at(items, at):
    """The reduced fraction whose up stands at an index, and its down behind it."""
    up = integer_at(items, at, None, None)
    down = integer_at(items, at + 1, 1, None)
    if gcd(up, down) > 1:
        raise BadText(0, at + 1)
    return (up, down)
