"""Rows of rests, how many zeros stand in a stretch, the first one, and values above 0."""

import inspect
import itertools
import random
import unittest
from fractions import Fraction

from mapflow import zeros
from mapflow.errors import BadNumber, BadPoly, Misfit
from mapflow.polys import poly_parted, slope_of
from mapflow.zeros import first_zero, is_above, rests_of, zeros_in
from tests.samples import NO_FRACTIONS, OrderMixin, number, pair
from tests.test_polys import NO_POLYS, POLYS, by_chance, numbers, pairs, product, total, value

# Factors, each with its zeros (u, s, d): u and s times the root of d.
FACTORS = (
    ([0, 1], [(0, 0, 0)]), ([-1, 1], [(1, 0, 0)]), ([-1, 2], [(Fraction(1, 2), 0, 0)]), ([(2, 3), 1], [(Fraction(-2, 3), 0, 0)]),
    ([3, -1], [(3, 0, 0)]), ([-2, 0, 1], [(0, 1, 2), (0, -1, 2)]), ([-1, -2, 1], [(1, 1, 2), (1, -1, 2)]),
    ([-1, 1, 1], [(Fraction(-1, 2), Fraction(1, 2), 5), (Fraction(-1, 2), Fraction(-1, 2), 5)]),
    ([1, 0, 1], []), ([7, 1, 3], []), ([-5], []), ([(1, 9)], []),
)
BOUNDS = (-3, -2, (-3, 2), -1, (-2, 3), 0, (1, 4), (1, 2), [2, 4], 1, (7, 5), (17, 12), 2, (5, 2), 3, 4)
WIDTHS = (10, 1, (1, 2), (1, 3), [1, 1000])


def side_of(root, at):
    """Whether a zero (u, s, d) stands below a fraction, at it or above it: -1, 0, 1."""
    shift, share, square = root
    rest = number(at) - shift
    if share < 0:
        return -side_of((0, -share, square), pair(-rest))
    if rest < 0:
        return 1
    return (share * share * square > rest * rest) - (share * share * square < rest * rest)


def stands_in(root, low, high):
    """Whether a zero stands above low, up to high."""
    return side_of(root, low) > 0 and side_of(root, high) <= 0


def some_products(many=100):
    """Pairs of a polynomial and its unlike zeros: products of factors by chance, some of them several times."""
    chance = random.Random(8)
    found = [([1], []), ([(-3, 7), 0, 0], [])]
    for k in range(many):
        poly, roots = [Fraction(1)], []
        for factor, its in chance.choices(FACTORS, k=chance.randint(1, 5)):
            poly = product(poly, numbers(factor))
            roots.extend([root for root in its if root not in roots])
        found.append((list(pairs(poly)) + [0] * (k % 3), roots))
    return found


def stretches():
    return [(low, high) for low, high in itertools.combinations(BOUNDS, 2) if number(low) < number(high)]


def halved(poly, roots, low, high, width):
    """What first_zero returns, from the zeros."""
    if not any(stands_in(root, low, high) for root in roots):
        return None
    begin, end = number(low), number(high)
    while end - begin > number(width):
        half = (begin + end) / 2
        if any(stands_in(root, pair(begin), pair(half)) for root in roots):
            end = half
        else:
            begin = half
    return (pair(begin), pair(end))


class RestsTest(unittest.TestCase, OrderMixin):
    def check_row(self, poly):
        row = rests_of(poly)
        self.assertEqual(row, tuple(pairs(numbers(rest)) for rest in row))
        if not numbers(poly):
            self.assertEqual(row, ())
            return
        self.assertEqual(row[0], pairs(numbers(poly)))
        self.assertTrue(all(row))
        slope = slope_of(poly)
        self.assertEqual(row[1:2], (slope,) if slope else ())
        for one, other, rest in zip(row, row[1:], row[2:]):
            # Some polynomial, taken times the last one, less the rest is the last but one: the signs are turned.
            quotient, _ = poly_parted(one, other)
            back = total(product(numbers(quotient), numbers(other)), [-part for part in numbers(rest)])
            self.assertEqual(pairs(back), one)
        for one, other in zip(row, row[1:]):
            self.assertLess(len(other), len(one))
        for one in row[:2]:
            self.assertEqual(poly_parted(one, row[-1])[1], ())
        if len(row) > 1:
            self.assertEqual(poly_parted(row[-2], row[-1])[1], ())

    def test_rows(self):
        chance = random.Random(4)
        for poly in POLYS:
            self.check_row(poly)
        for poly, _ in some_products():
            self.check_row(poly)
        for length in range(1, 12):
            for most in (1, 9, 999999):
                self.check_row(by_chance(chance, length, most))
                self.check_row([chance.randint(-most, most) for _ in range(length)])
        for gap in range(2, 9):
            self.check_row([chance.randint(1, 9)] + [0] * gap + [chance.randint(-9, -1), 0, 0, 3])

    def test_told_ones(self):
        self.assertEqual([rests_of(poly) for poly in ([], [0], [0, (0, 5)])], [(), (), ()])
        self.assertEqual([rests_of(poly) for poly in ([5], [(-2, 4), 0])], [(((5, 1),),), (((-1, 2),),)])
        self.assertEqual(rests_of(poly=(-2, 0, 1)), (((-2, 1), (0, 1), (1, 1)), ((0, 1), (2, 1)), ((2, 1),)))
        self.assertEqual(rests_of([1, -2, 1]), (((1, 1), (-2, 1), (1, 1)), ((-2, 1), (2, 1))))
        self.assertEqual(rests_of([4, 2]), (((4, 1), (2, 1)), ((2, 1),)))
        self.assertEqual(rests_of([1, 0, 1])[-1], ((-1, 1),))

    def test_eighteen_fractions(self):
        poly = by_chance(random.Random(5), 18, 999999)
        self.check_row(poly)
        self.assertEqual(len(rests_of(poly)), 18)

    def test_errors(self):
        self.check_order(rests_of, {"poly": [1, 2]}, {"poly": [(poly, BadPoly("poly")) for poly in NO_POLYS]})


WRONG_BOUNDS = {
    "low": [(wrong, BadNumber("low")) for wrong in NO_FRACTIONS],
    "high": [(wrong, BadNumber("high")) for wrong in NO_FRACTIONS],
}
TURNED = ((1, 1), (0, (0, 7)), ((2, 4), [1, 2]), (1, 0), ((1, 2), (499999, 10 ** 6)), (5, -5), (-1, (-3, 2)))


class ZerosTest(unittest.TestCase, OrderMixin):
    def test_as_the_zeros_stand(self):
        seen = {}
        for poly, roots in some_products():
            for low, high in stretches():
                wanted = len([root for root in roots if stands_in(root, low, high)])
                self.assertEqual(zeros_in(poly, low, high), wanted, (poly, low, high))
                seen[wanted] = seen.get(wanted, 0) + 1
        self.assertGreater(min(seen[many] for many in range(5)), 50)

    def test_one_that_comes_often(self):
        for often in range(1, 7):
            poly = [1]
            for _ in range(often):
                poly = pairs(product(numbers(poly), numbers([-1, 2])))
            for low, high, wanted in ((0, 1, 1), (0, (1, 2), 1), ((1, 2), 1, 0), (0, (499999, 10 ** 6), 0), (-9, 9, 1)):
                self.assertEqual(zeros_in(poly, low, high), wanted)
                whole = pairs(product(numbers(poly), numbers([-2, 0, 1])))
                self.assertEqual(zeros_in(whole, low, high), wanted + (2 if high == 9 else 0))

    def test_two_stretches_side_by_side(self):
        for poly, _ in some_products(12):
            for low, high in stretches():
                for middle in BOUNDS:
                    if number(low) < number(middle) < number(high):
                        parts = zeros_in(poly, low, middle) + zeros_in(poly, middle, high)
                        self.assertEqual(parts, zeros_in(poly, low, high))

    def test_told_ones(self):
        self.assertEqual(zeros_in(high=2, low=-2, poly=[-2, 0, 1]), 2)
        self.assertEqual([zeros_in([1, -2, 1], 0, 1), zeros_in([1, -2, 1], 1, 2), zeros_in([5], 0, 1)], [1, 0, 0])
        self.assertEqual([zeros_in([0, 1], -1, 0), zeros_in([0, 1], 0, 1), zeros_in([0, 1, 0], [-1, 10 ** 30], 0)], [1, 0, 1])
        # All of 1, 2, .., 17 are zeros.
        poly = [Fraction(1)]
        for k in range(1, 18):
            poly = product(poly, [Fraction(-k), Fraction(1)])
        self.assertEqual(zeros_in(pairs(poly), 0, 17), 17)
        self.assertEqual(zeros_in(pairs(poly), 1, (33, 2)), 15)

    def test_zeros_that_are_close(self):
        poly = product(numbers([(-1, 3), 1]), numbers([(-333333, 999998), 1]))
        self.assertEqual(zeros_in(pairs(poly), 0, 1), 2)
        self.assertEqual(zeros_in(pairs(poly), (1, 3), 1), 1)
        self.assertEqual(zeros_in(pairs(poly), (333333, 999998), 1), 0)

    def test_errors(self):
        wrong = {"poly": [(poly, BadPoly("poly")) for poly in NO_POLYS], **WRONG_BOUNDS}
        late = [({"poly": poly, "low": low, "high": high}, Misfit("poly")) for poly in ([], [0], ((0, 5), [0, 7]))
                for low, high in ((0, 1), *TURNED)]
        late.extend([({"low": low, "high": high}, Misfit("high")) for low, high in TURNED])
        self.check_order(zeros_in, {"poly": [1, 2], "low": 0, "high": 1}, wrong, late)


class FirstTest(unittest.TestCase, OrderMixin):
    def test_as_the_zeros_stand(self):
        seen = {True: 0, False: 0}
        for poly, roots in some_products(30):
            for low, high in stretches():
                for width in WIDTHS:
                    wanted = halved(poly, roots, low, high, width)
                    self.assertEqual(repr(first_zero(poly, low, high, width)), repr(wanted))
                    seen[wanted is None] += 1
        self.assertGreater(min(seen.values()), 500)

    def test_told_ones(self):
        self.assertEqual(first_zero(width=(1, 2), high=2, low=0, poly=[-2, 0, 1]), ((1, 1), (3, 2)))
        self.assertEqual(first_zero([0, 1], -1, 1, 1), ((-1, 1), (0, 1)))
        self.assertEqual(first_zero([0, 1], -1, 1, 2), ((-1, 1), (1, 1)))
        self.assertEqual(first_zero([0, 1], -1, 1, (1, 2)), ((-1, 2), (0, 1)))
        self.assertIs(first_zero([1, 0, 1], 0, 1, 1), None)
        self.assertIs(first_zero([0, 1], 0, 1, 1), None)

    def test_small_widths(self):
        begin, end = first_zero([-2, 0, 1], 1, 2, (1, 10 ** 40))
        self.assertLessEqual(number(end) - number(begin), Fraction(1, 10 ** 40))
        self.assertGreater(2 * (number(end) - number(begin)), Fraction(1, 10 ** 40))
        self.assertTrue(number(begin) ** 2 < 2 <= number(end) ** 2)
        close = Fraction(333333333, 999999998)
        poly = product([Fraction(-1, 3), Fraction(1)], [-close, Fraction(1)])
        begin, end = first_zero(pairs(poly), 0, 1, (1, 10 ** 12))
        self.assertTrue(number(begin) < Fraction(1, 3) <= number(end) < close)

    def test_errors(self):
        wrong = {"poly": [(poly, BadPoly("poly")) for poly in NO_POLYS], **WRONG_BOUNDS}
        wrong["width"] = [(width, BadNumber("width")) for width in (*NO_FRACTIONS, 0, -1, (0, 5), [0, 1], (-1, 10 ** 9))]
        late = [({"poly": poly, "low": low, "high": high}, Misfit("poly")) for poly in ([], [0])
                for low, high in ((0, 1), *TURNED)]
        late.extend([({"low": low, "high": high}, Misfit("high")) for low, high in TURNED])
        self.check_order(first_zero, {"poly": [1, 2], "low": 0, "high": 1, "width": (1, 2)}, wrong, late)


class AboveTest(unittest.TestCase, OrderMixin):
    def test_as_the_zeros_stand(self):
        seen = {True: 0, False: 0}
        for poly, roots in some_products():
            for low, high in stretches():
                clear = not any(stands_in(root, low, high) or side_of(root, low) == 0 for root in roots)
                wanted = clear and value(poly, low) > 0
                self.assertIs(is_above(poly, low, high), wanted, (poly, low, high))
                seen[wanted] += 1
        self.assertGreater(min(seen.values()), 500)

    def test_what_only_touches(self):
        for often in (2, 4, 6):
            for factor, at in (([-1, 3], (1, 3)), ([-1, 2], (1, 2)), ([0, 1], 0), ([-1, 1], 1)):
                poly = [Fraction(1)]
                for _ in range(often):
                    poly = product(poly, numbers(factor))
                self.assertIs(is_above(pairs(poly), 0, 1), False)
                self.assertIs(is_above(pairs(poly), -1, 2), False)
                lifted = total(poly, [Fraction(1, 10 ** 9)])
                self.assertIs(is_above(pairs(lifted), -1, 2), True)
                sunk = total(poly, [-Fraction(1, 10 ** 9)])
                self.assertIs(is_above(pairs(sunk), -1, 2), False)
        square = product(numbers([-1, 0, 2]), numbers([-1, 0, 2]))
        self.assertIs(is_above(pairs(square), 0, 1), False)
        self.assertIs(is_above(pairs(square), 1, 2), True)
        self.assertIs(is_above(pairs(total(square, [Fraction(1, 10 ** 20)])), 0, 1), True)
        self.assertIs(is_above(pairs(total(square, [-Fraction(1, 10 ** 20)])), 0, 1), False)

    def test_told_ones(self):
        self.assertIs(is_above(high=9, low=-9, poly=[1, 0, 1]), True)
        for poly, low, high, wanted in (
            ([0, 1], 0, 1, False), ([0, 1], (1, 9), 1, True), ([1, -1], 0, 1, False), ([1, -1], 0, (999999, 10 ** 6), True),
            ([], 0, 1, False), ([0, 0], 0, 1, False), ([3], 0, 1, True), ([-3], 0, 1, False), ([(1, 10 ** 9)], -5, 5, True),
        ):
            self.assertIs(is_above(poly, low, high), wanted)

    def test_long_ones(self):
        chance = random.Random(2)
        poly = by_chance(chance, 18, 999999)
        bound = sum(abs(part) for part in numbers(poly))
        for lift, wanted in ((2 * bound, True), (-2 * bound, False)):
            self.assertIs(is_above(pairs(total(numbers(poly), [lift])), -1, 1), wanted)

    def test_errors(self):
        wrong = {"poly": [(poly, BadPoly("poly")) for poly in NO_POLYS], **WRONG_BOUNDS}
        late = [({"poly": poly, "low": low, "high": high}, Misfit("high")) for low, high in TURNED for poly in ([1], [], [0, 0])]
        self.check_order(is_above, {"poly": [1, 2], "low": 0, "high": 1}, wrong, late)

    def test_what_is_passed_stays(self):
        poly, low, high = [[2, 4], 0, [-1, 3], 0], [1, 5], [2, 3]
        for call, more in ((zeros_in, ()), (first_zero, ([1, 9],)), (is_above, ())):
            call(poly, low, high, *more)
        rests_of(poly)
        self.assertEqual((poly, low, high), ([[2, 4], 0, [-1, 3], 0], [1, 5], [2, 3]))

    def test_parameters(self):
        for name, wanted in (
            ("rests_of", ["poly"]), ("zeros_in", ["poly", "low", "high"]), ("first_zero", ["poly", "low", "high", "width"]),
            ("is_above", ["poly", "low", "high"]),
        ):
            self.assertEqual(list(inspect.signature(getattr(zeros, name)).parameters), wanted)
            self.assertEqual(getattr(zeros, name).__module__, "mapflow.zeros")


if __name__ == "__main__":
    unittest.main()
