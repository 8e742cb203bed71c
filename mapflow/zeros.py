"""Rows of rests, and where the zeros of polynomials stand."""

from math import gcd

from mapflow.checks import is_fraction
from mapflow.errors import BadNumber, Misfit
from mapflow.fractions import added, divided, fraction_of, multiplied, over_one_down, reduced, sign_of, taken
from mapflow.polys import read_poly
from mapflow.wholes import content_of, quotient_whole, rest_whole, scaled, shifted, value_whole

MOST_STRETCHES = 40


def row_of(numbers):
    """The row of rests of a polynomial with integers: tuples (numbers, common, times).

    These numbers are integers that none above 1 divides. Taken times common, divided by times, both above 0, they are
    those of the row itself; behind the first two they are taken besides as often as those of the last but one.
    """
    row = []
    following, times = numbers, 1
    while following:
        common = content_of(following)
        row.append(([number // common for number in following], common, times))
        if len(row) == 1:
            following = [k * number for k, number in enumerate(numbers) if k > 0]
        else:
            rest, times = rest_whole(row[-2][0], row[-1][0])
            following = [-number for number in rest]
    return row


def times_scale(number, scale):
    """An integer times a reduced fraction above 0."""
    # The integer is far shorter than the fraction: so this is faster than to reduce the product.
    up, down = scale
    common = gcd(number, down)
    return (up * (number // common), down // common)


def rests_of(poly):
    """The row of rests of the polynomial."""
    ups, down = over_one_down(read_poly(poly, "poly"))
    scales, rests = [], []
    for k, (numbers, common, times) in enumerate(row_of(ups)):
        before = (1, down) if k < 2 else scales[k - 2]
        scales.append(multiplied(before, reduced(common, times)))
        rests.append(tuple([times_scale(number, scales[k]) for number in numbers]))
    return tuple(rests)


def counting_row(numbers):
    """The row of rests of a polynomial with integers, not 0, each of them divided by the last one."""
    row = [rest for rest, _, _ in row_of(numbers)]
    return [quotient_whole(rest, row[-1]) for rest in row]


def changes_at(row, at):
    """How often a sign follows an unlike one in the values of a row, those left out that are 0."""
    values = [value_whole(numbers, at) for numbers in row]
    ups = [number > 0 for number in values if number != 0]
    return len([k for k in range(1, len(ups)) if ups[k] != ups[k - 1]])


def zeros_within(numbers, low, high):
    """How many unlike zeros of a polynomial with integers, not 0, stand above low, up to high, reduced fractions."""
    row = counting_row(numbers)
    return changes_at(row, low) - changes_at(row, high)


def first_span(numbers, low, high, width):
    """What first_zero tells of a polynomial with integers, not 0, low and high being reduced fractions."""
    row = counting_row(numbers)
    ahead = changes_at(row, low)
    if changes_at(row, high) == ahead:
        return None
    begin, end = low, high
    while sign_of(taken(taken(end, begin), width)) > 0:
        half = divided(added(begin, end), 2)
        # No zero stands above low, up to begin: so there are as many changes as at low.
        if changes_at(row, half) == ahead:
            begin = half
        else:
            end = half
    return (begin, end)


def as_unit(numbers, low, high):
    """What has at x the value at (1 - x) times low and x times high, taken times an integer above 0."""
    (begin, end), down = over_one_down([low, high])
    return scaled(shifted(scaled(numbers, 1, down), begin), end - begin, 1)


def is_plainly_above(numbers):
    """Whether one sees by signs that all values from 0 to 1 are above 0, if those at 0 and 1 are."""
    # The value at 1 / (1 + x), taken times a power of 1 + x, has these numbers; x goes from 0 on.
    return min(shifted(list(reversed(numbers)), 1)) >= 0


def is_above_on(numbers, low, high):
    """Whether all values of a polynomial with integers are above 0 from low to high, both counted.

    Low and high are reduced fractions, low not above high.
    """
    if not numbers:
        return False
    waiting = [as_unit(numbers, low, high)]
    for _ in range(MOST_STRETCHES):
        if not waiting:
            return True
        stretch = waiting.pop()
        if stretch[0] <= 0 or sum(stretch) <= 0:
            return False
        if not is_plainly_above(stretch):
            half = scaled(stretch, 1, 2)
            waiting.extend([shifted(half, 1), half])
    # Rows of rests have far longer numbers: they are for what comes near 0, or to it between fractions.
    return zeros_within(numbers, low, high) == 0


def want_bounds(low, high):
    """Wants fractions for low and high."""
    if not is_fraction(low):
        raise BadNumber("low")
    if not is_fraction(high):
        raise BadNumber("high")


def want_stretch(low, high):
    """Wants that low is below high; they are fractions."""
    if sign_of(taken(high, low)) <= 0:
        raise Misfit("high")


def zeros_in(poly, low, high):
    """How many unlike zeros of the polynomial stand above low, up to high."""
    numbers, _ = over_one_down(read_poly(poly, "poly"))
    want_bounds(low, high)
    if not numbers:
        raise Misfit("poly")
    want_stretch(low, high)
    return zeros_within(numbers, fraction_of(low), fraction_of(high))


def first_zero(poly, low, high, width):
    """The stretch, no longer than width, in which the first zero above low, up to high, stands; None without one."""
    numbers, _ = over_one_down(read_poly(poly, "poly"))
    want_bounds(low, high)
    if not is_fraction(width) or sign_of(width) <= 0:
        raise BadNumber("width")
    if not numbers:
        raise Misfit("poly")
    want_stretch(low, high)
    return first_span(numbers, fraction_of(low), fraction_of(high), width)


def is_above(poly, low, high):
    """Whether all values of the polynomial are above 0 from low to high, both counted."""
    numbers, _ = over_one_down(read_poly(poly, "poly"))
    want_bounds(low, high)
    want_stretch(low, high)
    return is_above_on(numbers, fraction_of(low), fraction_of(high))
