"""Polynomials, told by the fractions that stand with 1, x, x x and so on."""

from mapflow.checks import is_fraction, is_list, is_place
from mapflow.errors import BadNumber, BadPoly, Misfit, TooMany
from mapflow.fractions import added, divided, fraction_of, multiplied, over_one_down, reduced, taken
from mapflow.wholes import times_whole

MOST_NUMBERS = 80
MOST_POINTS = 40


def trimmed(numbers):
    """The polynomial with these reduced fractions, without 0s at its end."""
    length = len(numbers)
    while length > 0 and numbers[length - 1] == (0, 1):
        length -= 1
    return tuple(numbers[:length])


def is_poly(value):
    """Whether value is a list of fractions, no more than a polynomial can have."""
    return is_list(value) and len(value) <= MOST_NUMBERS and all([is_fraction(number) for number in value])


def read_poly(value, part):
    """The polynomial that value tells; an error names part if it tells none."""
    if not is_poly(value):
        raise BadPoly(part)
    return trimmed([fraction_of(number) for number in value])


def poly_of(value):
    """The polynomial, without 0s at its end."""
    return read_poly(value, "value")


def value_at(poly, at):
    """The value of the polynomial at a fraction."""
    numbers = read_poly(poly, "poly")
    if not is_fraction(at):
        raise BadNumber("at")
    total = (0, 1)
    for number in reversed(numbers):
        total = added(multiplied(total, at), number)
    return total


def poly_sum(one, other):
    """One and other together."""
    first, second = read_poly(one, "one"), read_poly(other, "other")
    total = []
    for k in range(max(len(first), len(second))):
        number = first[k] if k < len(first) else 0
        total.append(added(number, second[k] if k < len(second) else 0))
    return trimmed(total)


def poly_times(one, other):
    """One times other."""
    (first, down), (second, below) = over_one_down(read_poly(one, "one")), over_one_down(read_poly(other, "other"))
    # The last numbers of both are not 0, so neither is that of the product.
    product = times_whole(first, second)
    if len(product) > MOST_NUMBERS:
        raise TooMany("numbers", MOST_NUMBERS)
    return tuple([reduced(up, down * below) for up in product])


def parted(first, second):
    """The pair of the quotient and the rest of polynomials without 0s at their ends, the second one not 0."""
    rest = list(first)
    quotient = [(0, 1) for _ in range(len(first) - len(second) + 1)]
    for shift in reversed(range(len(quotient))):
        share = divided(rest[-1], second[-1])
        quotient[shift] = share
        # The last number becomes 0 by this choice of the share, and is left out.
        lower = [taken(rest[shift + k], multiplied(share, number)) for k, number in enumerate(second[:-1])]
        rest = [*rest[:shift], *lower]
    return (trimmed(quotient), trimmed(rest))


def poly_parted(one, other):
    """The pair of the quotient and the rest of one divided by other."""
    first, second = read_poly(one, "one"), read_poly(other, "other")
    if not second:
        raise Misfit("other")
    return parted(first, second)


def slope_of(poly):
    """The slope of the polynomial."""
    numbers = read_poly(poly, "poly")
    return tuple([multiplied(k, number) for k, number in enumerate(numbers) if k > 0])


def read_points(points):
    """The points, their fractions reduced."""
    if not is_list(points) or len(points) > MOST_POINTS or not all([is_place(point) for point in points]):
        raise BadPoly("points")
    pairs = [(fraction_of(at), fraction_of(value)) for at, value in points]
    if len(set([at for at, _ in pairs])) < len(pairs):
        raise Misfit("points")
    return pairs


def times_factor(product, at):
    """A polynomial with integers, times down x - up, at being (up, down)."""
    up, down = at
    return [down * low - up * high for low, high in zip([0, *product], [*product, 0])]


def without_factor(product, at):
    """A polynomial with integers, divided by its factor down x - up, at being (up, down), which is reduced."""
    up, down = at
    quotient = []
    number = 0
    for high in reversed(product[1:]):
        # No integer above 1 divides up and down: so all of these are integers.
        number = (high + up * number) // down
        quotient.append(number)
    return list(reversed(quotient))


def share_at(pairs, k):
    """How often point k takes the product of the factors of all others, so that the value at it is told."""
    (up, down), (top, bottom) = pairs[k]
    for (other, below), _ in [*pairs[:k], *pairs[k + 1:]]:
        top *= down
        bottom *= below * up - other * down
    return divided(top, bottom)


def poly_through(points):
    """The shortest polynomial that has at each of some fractions a told value."""
    pairs = read_points(points)
    # Integers and one down for all of them: sums of fractions would have to be reduced again and again.
    product = [1]
    for at, _ in pairs:
        product = times_factor(product, at)
    ups, down = over_one_down([share_at(pairs, k) for k in range(len(pairs))])
    parts = [without_factor(product, at) for at, _ in pairs]
    total = []
    for k in range(len(pairs)):
        total.append(reduced(sum([up * part[k] for up, part in zip(ups, parts)]), down))
    return trimmed(total)
