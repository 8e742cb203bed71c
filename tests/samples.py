"""What several tests use: maps, frames, drawings, wrong values, and a reckoning of their own by Python's Fraction."""

import itertools
import random
from fractions import Fraction

from mapflow.builds import exchanged, fan_map, mirrored_map, renamed, split_at
from mapflow.drawings import Placing
from mapflow.errors import Misfit
from mapflow.maps import Map, ties_of
from mapflow.weights import even_weights, rest_of, springs

# Values that are no map, no placing, no weights, no land, no place, no list of anything.
NOTHINGS = (None, True, False, 0, 7, -1, "", "0 1 2", b"0 1 2", 1.5, {}, {0: 1}, {1, 2}, object(), int, range(3))
NO_DOTS = (None, True, False, -1, 60, 10 ** 30, "0", "", b"0", 0.0, 1.5, (), [], (1,), (1, 1), [0], {}, {0}, object())
NO_FRACTIONS = (
    None, True, False, "1", b"1", 0.5, 1.0, [], (), [1], (1, 2, 3), (1, 0), [0, 0], (1, -2), (True, 1), (1, True),
    (1, None), ("1", 2), ((1, 2), 3), {}, {1: 2}, {1, 2}, object(),
)


def number(value):
    """Python's own Fraction of what the package calls a fraction."""
    return Fraction(value) if isinstance(value, int) else Fraction(value[0], value[1])


def pair(value):
    """The reduced tuple of a Fraction or an integer."""
    value = Fraction(value)
    return (value.numerator, value.denominator)


def point(place):
    return (number(place[0]), number(place[1]))


def parabola(corners, wide=1, left=0):
    """A convex frame with so many corners, counterclockwise."""
    return [(wide * k + left, wide * k * k) for k in range(corners)]


def ears(many):
    """A map without inner dots: a fan of the dot 0 over so many dots."""
    return Map([(0, k, k + 1) for k in range(1, many - 1)])


def some_map(seed, corners, inner, names=False):
    """A map with so many corners and inner dots, made by chance."""
    chance = random.Random(seed)
    chart = fan_map(corners) if inner else ears(corners)
    while len(chart.inner) < inner:
        chart = split_at(chart, chance.choice(chart.lands))
        for _ in range(6):
            one, other = chance.choice(ties_of(chart))
            try:
                chart = exchanged(chart, one, other)
            except Misfit:
                continue
    if names:
        chart = renamed(chart, chance.sample(range(chart.dots), chart.dots))
    return chart


def some_maps():
    """Maps of many kinds."""
    found = [Map([(0, 1, 2)]), Map([(0, 2, 1)]), ears(4), ears(7), fan_map(3), fan_map(5), mirrored_map(fan_map(4))]
    for seed in range(12):
        found.append(some_map(seed, 3 + seed % 6, seed % 6, names=seed % 2 == 1))
    return found


def some_weights(seed, chart):
    chance = random.Random(seed)
    rows = [[(chance.randint(1, 9), chance.randint(1, 9)) for _ in chart.rounds[dot]] for dot in chart.inner]
    return springs(chart, rows)


def some_drawing(seed, chart, frame=None):
    """A drawing of a map, the rest of weights made by chance, in this frame or in a parabola."""
    return rest_of(some_weights(seed, chart), frame or parabola(len(chart.frame)))


def crowded_drawing(seed):
    """A drawing of a map with 21 inner dots, by chance, but for each seed of the same map in the same frame."""
    chart = some_map(9, 4, 20)
    held = some_drawing(seed, chart)
    land = [point(held.places[dot]) for dot in chart.lands[0]]
    centre = tuple(pair(sum(corner[k] for corner in land) / 3) for k in (0, 1))
    return Placing(split_at(chart, chart.lands[0]), [*held.places, centre])


def even_drawing(chart):
    return rest_of(even_weights(chart), parabola(len(chart.frame)))


def some_placing(seed, chart, most=4):
    """A placing by chance with small numbers: so dots often meet, and lie on one line."""
    chance = random.Random(seed)
    return Placing(chart, [(chance.randint(0, most), (chance.randint(0, 2 * most), 2)) for _ in range(chart.dots)])


def area(one, two, three):
    """Twice the area of three points, pairs of Fractions."""
    return (two[0] - one[0]) * (three[1] - one[1]) - (three[0] - one[0]) * (two[1] - one[1])


class OrderMixin:
    """Checks which error comes, alone and where several could."""

    def assertRaisesWith(self, wanted, call, *args, **names):
        """That just this error comes, with the same fields, and that nothing that is passed is changed."""
        before = repr((args, names))
        with self.assertRaises(ValueError) as caught:
            call(*args, **names)
        told = f"{args} {names}"[:500]
        self.assertIs(type(caught.exception), type(wanted), told)
        self.assertEqual(vars(caught.exception), vars(wanted), told)
        self.assertEqual(repr((args, names)), before)

    def check_order(self, call, good, wrong, late=()):
        """Each wrong argument alone, and any of them together: the error of the first one comes.

        good is a dict of arguments, in the order of the parameters; wrong tells for a name the pairs (value, error).
        late is a list of pairs (changes of good, error), each behind the errors of all parameters and of those ahead.
        """
        call(**good)
        names = list(good)
        for name in wrong:
            for value, error in wrong[name]:
                self.assertRaisesWith(error, call, **{**good, name: value})
                self.assertRaisesWith(error, call, *{**good, name: value}.values())
        first = {name: wrong[name][0] for name in names if name in wrong}
        for many in range(2, len(first) + 1):
            for some in itertools.combinations(first, many):
                values = {name: first[name][0] for name in some}
                self.assertRaisesWith(first[some[0]][1], call, **{**good, **values})
        for changes, error in late:
            self.assertRaisesWith(error, call, **{**good, **changes})
            for name in first:
                if name not in changes:
                    self.assertRaisesWith(first[name][1], call, **{**good, **changes, name: first[name][0]})
