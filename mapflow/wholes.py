"""Polynomials with integers, told by lists without 0s at their ends: integers need not be reduced at each step."""

from math import gcd

from mapflow.fractions import over_one_down


def cut(numbers):
    """The polynomial with these integers, without 0s at its end."""
    length = len(numbers)
    while length > 0 and numbers[length - 1] == 0:
        length -= 1
    return numbers[:length]


def wholes_of(polys):
    """The pair (told, down): polynomials with reduced fractions are those told by integers, divided by down."""
    ups, down = over_one_down([number for poly in polys for number in poly])
    told = []
    begin = 0
    for poly in polys:
        told.append(cut(ups[begin:begin + len(poly)]))
        begin += len(poly)
    return (told, down)


def sum_whole(one, other):
    """One and other together."""
    total = [number + more for number, more in zip(one, other)]
    return cut(total + one[len(other):] + other[len(one):])


def less_whole(one, other):
    """One less other."""
    return sum_whole(one, [-number for number in other])


def times_whole(one, other):
    """One times other."""
    if not one or not other:
        return []
    product = [0 for _ in range(len(one) + len(other) - 1)]
    for k, number in enumerate(one):
        for i, more in enumerate(other):
            product[k + i] += number * more
    return product


def area_whole(xs, ys, land):
    """Twice the area of a land; xs and ys have a polynomial for each dot."""
    a, b, c = land
    forth = times_whole(less_whole(xs[b], xs[a]), less_whole(ys[c], ys[a]))
    return less_whole(forth, times_whole(less_whole(xs[c], xs[a]), less_whole(ys[b], ys[a])))


def powers_of(number, many):
    """So many powers of a number, beginning with 1."""
    powers = [1]
    while len(powers) < many:
        powers.append(powers[-1] * number)
    return powers


def scaled(numbers, up, down):
    """What has at x the value at up x / down, taken times a power of down."""
    many = len(numbers)
    below = list(reversed(powers_of(down, many)))
    return [number * power * rest for number, power, rest in zip(numbers, powers_of(up, many), below)]


def shifted(numbers, by):
    """What has at x the value at x + by."""
    told = list(numbers)
    for k in range(len(told)):
        for i in reversed(range(k, len(told) - 1)):
            told[i] += by * told[i + 1]
    return told


def value_whole(numbers, at):
    """The value at a reduced fraction, taken times an integer above 0."""
    up, down = at
    return sum(scaled(numbers, up, down))


def content_of(numbers):
    """The greatest integer that divides all of them, 0 for none."""
    common = 0
    for number in numbers:
        common = gcd(common, number)
    return common


def rest_whole(one, other):
    """The pair (rest, times): the rest of one, taken times an integer above 0, divided by other, which is not 0."""
    rest, times = one, 1
    head = other[-1]
    while len(rest) >= len(other):
        lead = rest[-1] if head > 0 else -rest[-1]
        below = [0 for _ in range(len(rest) - len(other))] + [lead * number for number in other]
        # The last number becomes 0 by this choice of the share: so the rest gets shorter.
        rest = cut([abs(head) * number - less for number, less in zip(rest, below)])
        times *= abs(head)
    return (rest, times)


def quotient_whole(one, other):
    """One divided by other, where both the quotient and the rest 0 are told by integers."""
    rest, quotient = list(one), []
    while len(rest) >= len(other):
        share = rest.pop() // other[-1]
        shift = len(rest) + 1 - len(other)
        for k, number in enumerate(other[:-1]):
            rest[shift + k] -= share * number
        quotient.append(share)
    return list(reversed(quotient))
