"""Polynomials: values, sums, products, quotients and rests, slopes, polynomials through points."""

import inspect
import itertools
import random
import unittest
from fractions import Fraction

from mapflow import polys
from mapflow.errors import BadNumber, BadPoly, Misfit, TooMany
from mapflow.polys import poly_of, poly_parted, poly_sum, poly_through, poly_times, slope_of, value_at
from tests.samples import NO_FRACTIONS, OrderMixin, number, pair

NO_LISTS = (None, True, False, 0, 7, "", "1", b"12", 1.5, {}, {0: 1}, {1, 2}, range(3), object(), int)
NO_POLYS = (*NO_LISTS, [0] * 81, (1,) * 81, [1] + [0] * 80, [0] * 200) + tuple(
    poly for wrong in NO_FRACTIONS for poly in ([wrong], (wrong,), [1, wrong], [wrong, (1, 2)], [1, [1, 2], wrong, 0]))
POLYS = (
    (), [], [0], (0, 0, [0, 7]), [1], [(-1, 2)], [0, 1], (1, 0, (2, 4), 0), [-2, 0, 1], [1, -2, 1], ((1, 3), (2, 5), [-7, 9]),
    (0, 0, 0, 5), [10 ** 40, (1, 10 ** 40)], [1, 1, 1, 1, 1, 1, (0, 3), [0, 4]],
)
PLACES = (0, 1, -1, (1, 2), [-3, 7], (0, 4), 10 ** 20, (1, 10 ** 20))


def numbers(poly):
    """The Fractions of a polynomial, without 0s at the end."""
    found = [number(value) for value in poly]
    while found and found[-1] == 0:
        found.pop()
    return found


def pairs(found):
    found = list(found)
    while found and found[-1] == 0:
        found.pop()
    return tuple(pair(value) for value in found)


def product(first, second):
    found = [Fraction(0)] * max(0, len(first) + len(second) - 1)
    for k, one in enumerate(first):
        for i, other in enumerate(second):
            found[k + i] += one * other
    return found


def total(first, second):
    return [one + other for one, other in itertools.zip_longest(first, second, fillvalue=Fraction(0))]


def value(poly, at):
    return sum((factor * number(at) ** k for k, factor in enumerate(numbers(poly))), Fraction(0))


def by_chance(chance, length, most=99):
    return [(chance.randint(-most, most), chance.randint(1, most)) for _ in range(length)]


class OneTest(unittest.TestCase, OrderMixin):
    def test_poly_of(self):
        for poly in POLYS:
            self.assertEqual(repr(poly_of(poly)), repr(pairs(numbers(poly))))
            self.assertEqual(poly_of(value=poly), poly_of(tuple(poly)))
        self.assertEqual(poly_of([0] * 80), ())
        self.assertEqual(poly_of([1] * 80), ((1, 1),) * 80)
        self.assertEqual(poly_of([0] * 79 + [(6, 4)]), ((0, 1),) * 79 + ((3, 2),))
        self.check_order(poly_of, {"value": [1]}, {"value": [(poly, BadPoly("value")) for poly in NO_POLYS]})

    def test_value_at(self):
        for poly in POLYS:
            for at in PLACES:
                self.assertEqual(repr(value_at(poly, at)), repr(pair(value(poly, at))))
        self.assertEqual(value_at(at=2, poly=[1] * 80), (2 ** 80 - 1, 1))
        self.check_order(value_at, {"poly": [1], "at": 0}, {
            "poly": [(poly, BadPoly("poly")) for poly in NO_POLYS],
            "at": [(wrong, BadNumber("at")) for wrong in NO_FRACTIONS],
        })
        self.assertRaisesWith(BadNumber("at"), value_at, [], None)

    def test_slope_of(self):
        for poly in POLYS:
            wanted = [k * factor for k, factor in enumerate(numbers(poly))][1:]
            self.assertEqual(repr(slope_of(poly)), repr(pairs(wanted)))
        self.assertEqual(slope_of(poly=[5, 4, 3]), ((4, 1), (6, 1)))
        self.assertEqual(slope_of([0] * 79 + [1]), ((0, 1),) * 78 + ((79, 1),))
        self.assertEqual([slope_of(poly) for poly in ([], [7], [7, 0, 0], [0, 3])], [(), (), (), ((3, 1),)])
        self.check_order(slope_of, {"poly": [1]}, {"poly": [(poly, BadPoly("poly")) for poly in NO_POLYS]})


class TwoTest(unittest.TestCase, OrderMixin):
    def test_sums_and_products(self):
        for one, other in itertools.product(POLYS, POLYS):
            self.assertEqual(repr(poly_sum(one, other)), repr(pairs(total(numbers(one), numbers(other)))))
            self.assertEqual(repr(poly_times(one, other)), repr(pairs(product(numbers(one), numbers(other)))))
        self.assertEqual(poly_sum(other=[1, -1], one=[1, 1]), ((2, 1),))
        self.assertEqual(poly_sum([1] * 80, [-1] * 80), ())
        self.assertEqual(poly_sum([1] * 80, [-1] * 79), ((0, 1),) * 79 + ((1, 1),))
        self.assertEqual(poly_times(other=[1, -1], one=[1, 1]), ((1, 1), (0, 1), (-1, 1)))

    def test_how_long_a_product_is(self):
        for first, second in ((1, 80), (2, 79), (40, 41), (79, 2), (80, 1)):
            self.assertEqual(len(poly_times([1] * first, [(1, 2)] * second)), 80)
        for first, second in ((2, 80), (80, 2), (41, 41), (80, 80)):
            self.assertRaisesWith(TooMany("numbers", 80), poly_times, [1] * first, [(1, 2)] * second)
        self.assertEqual(poly_times([1] * 80, []), ())
        self.assertEqual(poly_times([0] * 80, [1] * 80), ())
        self.assertEqual(len(poly_times([1] * 80, [1] + [0] * 79)), 80)
        self.assertEqual(len(poly_times([1] * 40 + [0] * 40, [1] * 41 + [(0, 5)] * 39)), 80)

    def test_quotient_and_rest(self):
        chance = random.Random(6)
        cases = list(itertools.product(POLYS, POLYS))
        cases.extend([(by_chance(chance, first), by_chance(chance, second)) for first in range(12) for second in range(1, 9)])
        for first, second in ((80, 1), (80, 2), (80, 40), (80, 79), (80, 80), (79, 80), (30, 3)):
            cases.append((by_chance(chance, first, 999999), by_chance(chance, second, 999999)))
        for one, other in cases:
            if not numbers(other):
                self.assertRaisesWith(Misfit("other"), poly_parted, one, other)
                continue
            quotient, rest = poly_parted(one, other)
            self.assertLess(len(rest), len(numbers(other)))
            back = total(product(numbers(quotient), numbers(other)), numbers(rest))
            self.assertEqual(pairs(back), pairs(numbers(one)))
            self.assertEqual(repr((quotient, rest)), repr((pairs(numbers(quotient)), pairs(numbers(rest)))))
        self.assertIs(type(poly_parted([1], [1])), tuple)
        self.assertEqual(poly_parted(other=[0, 0, 1], one=[1, 2]), ((), ((1, 1), (2, 1))))
        self.assertEqual(poly_parted([], [3]), ((), ()))

    def test_dividing_what_can_be_divided(self):
        chance = random.Random(7)
        for first, second in itertools.product(range(7), range(1, 7)):
            one, other = by_chance(chance, first), [*by_chance(chance, second - 1), 5]
            whole = pairs(product(numbers(one), numbers(other)))
            self.assertEqual(poly_parted(whole, other), (pairs(numbers(one)), ()))

    def test_errors(self):
        wrong = {"one": [(poly, BadPoly("one")) for poly in NO_POLYS], "other": [(poly, BadPoly("other")) for poly in NO_POLYS]}
        self.check_order(poly_sum, {"one": [1], "other": [2]}, wrong)
        self.check_order(poly_times, {"one": [1], "other": [2]}, wrong,
                         [({"one": [1] * 41, "other": [1] * 41}, TooMany("numbers", 80))])
        self.check_order(poly_parted, {"one": [1], "other": [2]}, wrong,
                         [({"other": other}, Misfit("other")) for other in ([], (), [0], [(0, 5)] * 80)])

    def test_what_is_passed_stays(self):
        one, other = [1, [2, 4], 0, 5], [[3, 6], 1]
        for call in (poly_sum, poly_times, poly_parted):
            call(one, other)
        self.assertEqual((one, other), ([1, [2, 4], 0, 5], [[3, 6], 1]))


class ThroughTest(unittest.TestCase, OrderMixin):
    def check_through(self, points):
        poly = poly_through(points)
        self.assertLessEqual(len(poly), len(points))
        self.assertEqual(repr(poly), repr(pairs(numbers(poly))))
        for at, wanted in points:
            self.assertEqual(value(poly, at), number(wanted))
        return poly

    def test_by_chance(self):
        chance = random.Random(3)
        for many in (*range(12), 25, 39, 40):
            for most in (9, 99):
                places = {}
                while len(places) < many:
                    at = (chance.randint(-most, most), chance.randint(1, most))
                    places[pair(number(at))] = at
                points = [(at, worth) for at, worth in zip(places.values(), by_chance(chance, many, most))]
                poly = self.check_through(points)
                self.assertEqual(poly_through(points=tuple([list(told) for told in points[::-1]])), poly)

    def test_the_shortest_one(self):
        chance = random.Random(5)
        for length in range(9):
            poly = pairs(numbers(by_chance(chance, length)))
            for many in (len(poly), len(poly) + 1, 40):
                points = [((k, 3), value_at(poly, (k, 3))) for k in range(many)]
                self.assertEqual(poly_through(points), poly)

    def test_great_fractions(self):
        chance = random.Random(1)
        points = [((10 ** 5 + 977 * k, 999983 - k), (chance.randint(1, 999999), 999979)) for k in range(40)]
        self.check_through(points)

    def test_told_ones(self):
        self.assertEqual([poly_through(points) for points in ([], (), [(0, 0)], [((1, 2), 4)], [(0, 1), [1, 1]])],
                         [(), (), (), ((4, 1),), ((1, 1),)])
        self.assertEqual(poly_through([(k, k * k + 1) for k in range(40)]), ((1, 1), (0, 1), (1, 1)))

    def test_errors(self):
        wrong = [*NO_LISTS, [(k, 0) for k in range(41)], [(0, 0)] * 41, [(0, 1), 2], [()], [(1,)], [(1, 2, 3)], [[]], ["12"], [None],
                 [{1: 2, 3: 4}], [(0, 1), (0, 1), (0,)], ((0, 1), (1, 1), "x")]
        for value_ in NO_FRACTIONS:
            wrong.extend([[(value_, 1)], [[1, value_]], [(0, 1), (value_, value_)], ((0, 1), (0, value_))])
        late = [({"points": points}, Misfit("points")) for points in (
            [(1, 2), ((2, 2), 2)], [(1, 2), (1, 3)], [(0, 0), [(0, 7), 1]], [(k, 1) for k in range(39)] + [(38, 1)],
            ([-1, 5], [(-2, 2), 5]), [((1, 2), 0), ([2, 4], 0)],
        )]
        self.check_order(poly_through, {"points": [(1, 2)]}, {"points": [(points, BadPoly("points")) for points in wrong]}, late)

    def test_parameters(self):
        for name, wanted in (
            ("poly_of", ["value"]), ("value_at", ["poly", "at"]), ("poly_sum", ["one", "other"]), ("poly_times", ["one", "other"]),
            ("poly_parted", ["one", "other"]), ("slope_of", ["poly"]), ("poly_through", ["points"]),
        ):
            self.assertEqual(list(inspect.signature(getattr(polys, name)).parameters), wanted)
            self.assertEqual(getattr(polys, name).__module__, "mapflow.polys")


if __name__ == "__main__":
    unittest.main()
