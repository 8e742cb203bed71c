"""Reckoning with fractions, exactly; they are returned as reduced tuples (up, down)."""

from math import gcd, lcm

from mapflow.checks import is_fraction, is_integer, is_list
from mapflow.errors import BadNumber, Misfit


def reduced(up, down):
    """The reduced fraction that is up divided by down, which is from 1 on."""
    common = gcd(up, down)
    return (up // common, down // common)


def read_fraction(value, part):
    """The reduced fraction that value tells; an error names part if it tells none."""
    if not is_fraction(value):
        raise BadNumber(part)
    if is_integer(value):
        return reduced(value, 1)
    up, down = value
    return reduced(up, down)


def over_one_down(some):
    """Reduced fractions told with one down in common: the pair (ups, down)."""
    down = 1
    for _, below in some:
        down = lcm(down, below)
    return ([up * (down // below) for up, below in some], down)


def fraction_of(value):
    """The fraction, reduced."""
    return read_fraction(value, "value")


def added(one, other):
    """One and other together."""
    up, down = read_fraction(one, "one")
    more, below = read_fraction(other, "other")
    return reduced(up * below + more * down, down * below)


def taken(one, other):
    """One less other."""
    up, down = read_fraction(one, "one")
    less, below = read_fraction(other, "other")
    return reduced(up * below - less * down, down * below)


def multiplied(one, other):
    """One times other."""
    up, down = read_fraction(one, "one")
    times, below = read_fraction(other, "other")
    return reduced(up * times, down * below)


def divided(one, other):
    """One divided by other, which is not 0."""
    up, down = read_fraction(one, "one")
    times, below = read_fraction(other, "other")
    if times == 0:
        raise Misfit("other")
    if times < 0:
        # What stands below must come out above 0: so the sign goes above.
        return reduced(-up * below, -times * down)
    return reduced(up * below, times * down)


def sum_of(some):
    """The sum of a list of fractions, 0 for none."""
    if not is_list(some) or not all([is_fraction(number) for number in some]):
        raise BadNumber("some")
    total = (0, 1)
    for number in some:
        total = added(total, number)
    return total


def mixed(one, other, share):
    """(1 - share) times one and share times other, added."""
    first = read_fraction(one, "one")
    second = read_fraction(other, "other")
    part = read_fraction(share, "share")
    return added(multiplied(taken(1, part), first), multiplied(part, second))


def sign_of(value):
    """-1 for a fraction below 0, 0 for 0, 1 above 0."""
    up, _ = read_fraction(value, "value")
    if up < 0:
        return -1
    if up > 0:
        return 1
    return 0
