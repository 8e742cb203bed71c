"""Straight moves: their moments, whether they are clear, which papers on it are right."""

import inspect
import itertools
import random
import unittest
from fractions import Fraction

from mapflow import straights
from mapflow.builds import Same, fan_map, split_at
from mapflow.drawings import Fallen, Placing, Sound, judged_placing
from mapflow.errors import BadNumber, BadPlacing, Misfit
from mapflow.flows import Flows
from mapflow.papers import Denial, Paper
from mapflow.straights import Clear, Falls, judged_straight, shows_straight, straight_at
from mapflow.weights import rest_of, springs
from tests.samples import (
    NO_DOTS, NO_FRACTIONS, NOTHINGS, OrderMixin, area, crowded_drawing, ears, number, pair, point, some_drawing, some_map, some_maps,
)
from tests.test_builds import NO_LANDS, turns
from tests.test_drawings import NO_PLACINGS
from tests.test_flows import CALM, CROWD, LEFT, ONE, OTHER, misfits
from tests.test_tellback import NO_SHARES
from tests.test_zeros import stands_in

TWO = split_at(fan_map(3), (0, 1, 3))
WIDE_CORNER = [(0, 0), (24, 0), (0, 24)]
BEGIN = Placing(TWO, [*WIDE_CORNER, (12, 4), (4, 1)])
END = Placing(TWO, [*WIDE_CORNER, (4, 12), (4, 9)])
MOMENTS = (0, (1, 12), (1, 9), (1, 8), (1, 3), (1, 2), (5, 7), (9, 10), 1)
WIDTHS = (2, 1, (1, 2), (1, 3), (1, 100), (1, 10 ** 9))


def moves():
    """Pairs of drawings, between which some straight moves fall."""
    found = [(ONE, OTHER), (CALM, LEFT), (BEGIN, END), (END, BEGIN), (ONE, ONE), tuple(CROWD)]
    for seed, chart in enumerate(some_maps()):
        found.append((some_drawing(seed, chart), some_drawing(seed + 1, chart)))
    for seed in range(24):
        chart = some_map(seed, 3 + seed % 4, 3 + seed % 4)
        frame = [(0, 0), (9, 0), (9, 9), (0, 9), (-2, 7), (-3, 4)][:3 + seed % 4]
        found.append((sharp_drawing(seed, chart, frame), sharp_drawing(seed + 99, chart, frame)))
    return found


def sharp_drawing(seed, chart, frame):
    """A drawing with dots far from the middle: weights that are very unlike."""
    chance = random.Random(seed)
    rows = [[chance.choice((1, 1, 300)) for _ in chart.rounds[dot]] for dot in chart.inner]
    return rest_of(springs(chart, rows), frame)


def quadratics(one, other):
    """For each land the numbers (a, b, c) of its area a + b t + c t t."""
    found = {}
    for land in one.chart.lands:
        first = area(*[point(one.places[dot]) for dot in land])
        last = area(*[point(other.places[dot]) for dot in land])
        half = area(*[tuple((near + far) / 2 for near, far in zip(point(one.places[dot]), point(other.places[dot]))) for dot in land])
        found[land] = (first, 4 * half - 3 * first - last, 2 * first + 2 * last - 4 * half)
    return found


def zeros_of(numbers):
    """The zeros of a + b t + c t t, each as (u, s, d): u and s times the root of d."""
    a, b, c = numbers
    if c == 0:
        return [(-a / b, 0, 0)] if b else []
    square = b * b - 4 * a * c
    if square < 0:
        return []
    return [(-b / (2 * c), sign / (2 * c), square) for sign in (Fraction(1), Fraction(-1))]


def has_zero(numbers, low, high):
    return any(stands_in(zero, low, high) for zero in zeros_of(numbers))


class MomentTest(unittest.TestCase, OrderMixin):
    def test_moments(self):
        for one, other in moves():
            self.assertEqual((straight_at(one, other, 0), straight_at(one, other, [3, 3])), (one, other))
            for moment in MOMENTS:
                made = straight_at(one, other, moment)
                share = number(moment)
                self.assertIs(type(made), Placing)
                self.assertEqual(made.chart, one.chart)
                wanted = []
                for first, last in zip(one.places, other.places):
                    wanted.append(tuple(pair((1 - share) * near + share * far) for near, far in zip(point(first), point(last))))
                self.assertEqual(repr(made.places), repr(tuple(wanted)))
        self.assertEqual(straight_at(moment=(1, 2), other=OTHER, one=ONE).places[3], ((1, 1), (3, 4)))

    def test_it_may_be_no_drawing(self):
        self.assertEqual(judged_placing(straight_at(BEGIN, END, (1, 2))), Fallen((0, 4, 3)))
        self.assertEqual(judged_placing(straight_at(BEGIN, END, (1, 20))), Sound())

    def test_errors(self):
        late = [(changes, error) for changes, error in misfits({"moment": 0}) if type(error) is Misfit]
        self.check_order(straight_at, {"one": ONE, "other": OTHER, "moment": (1, 2)}, {
            "one": [(value, BadPlacing("one")) for value in NO_PLACINGS],
            "other": [(value, BadPlacing("other")) for value in NO_PLACINGS],
            "moment": [(value, BadNumber("moment")) for value in NO_SHARES],
        }, late)


class JudgedTest(unittest.TestCase, OrderMixin):
    def test_papers(self):
        self.assertEqual((Clear().word, Clear().parts, bool(Clear()), Clear.__bases__), ("clear", (), True, (Paper,)))
        made = Falls([0, [1]], [1, 2], 3)
        self.assertEqual((made.word, made.parts, bool(made)), ("falls", ((0, (1,)), (1, 2), 3), False))
        self.assertEqual((made.land, made.low, made.high, Falls.__bases__), ((0, (1,)), (1, 2), 3, (Denial,)))
        self.assertEqual(Falls(high=3, low=(1, 2), land=(0, (1,))), made)

    def test_judged(self):
        seen = {True: 0, False: 0}
        for one, other in moves():
            areas = quadratics(one, other)
            falling = [land for land in areas if has_zero(areas[land], 0, 1)]
            for width in WIDTHS:
                paper = judged_straight(one, other, width)
                seen[bool(falling)] += 1
                self.assertIs(shows_straight(one, other, paper), True)
                if not falling:
                    self.assertEqual(paper, Clear())
                    continue
                self.assertIs(type(paper), Falls)
                self.assertIs(bool(paper), False)
                self.assertLessEqual(number(paper.high) - number(paper.low), number(width))
                self.assertTrue(0 <= number(paper.low) < number(paper.high) <= 1)
                self.assertTrue(has_zero(areas[paper.land], paper.low, paper.high))
                self.assertFalse(any(has_zero(areas[land], 0, paper.low) for land in areas))
                self.assertEqual(judged_straight(width=width, other=other, one=one), paper)
        self.assertGreater(min(seen.values()), 50)

    def test_told_ones(self):
        self.assertEqual(judged_straight(ONE, OTHER, 1), Clear())
        self.assertEqual(judged_straight(BEGIN, END, (1, 100)).land, (0, 4, 3))
        self.assertEqual(judged_straight(BEGIN, END, 1), Falls((0, 4, 3), (0, 1), (1, 1)))
        self.assertEqual(judged_straight(BEGIN, END, 10 ** 20), Falls((0, 4, 3), (0, 1), (1, 1)))
        one = some_drawing(0, ears(5))
        self.assertEqual(judged_straight(one, one, (1, 9)), Clear())

    def test_more_inner_dots_than_a_flow_can_have(self):
        one, other = [crowded_drawing(seed) for seed in (2, 3)]
        self.assertIs(shows_straight(one, other, judged_straight(one, other, (1, 9))), True)

    def test_errors(self):
        late = [(changes, error) for changes, error in misfits({"width": 1}) if type(error) is Misfit]
        self.check_order(judged_straight, {"one": BEGIN, "other": END, "width": (1, 2)}, {
            "one": [(value, BadPlacing("one")) for value in NO_PLACINGS],
            "other": [(value, BadPlacing("other")) for value in NO_PLACINGS],
            "width": [(value, BadNumber("width")) for value in (*NO_FRACTIONS, 0, (0, 3), -1, [-1, 10 ** 9])],
        })
        self.check_order(judged_straight, {"one": ONE, "other": OTHER, "width": (1, 2)}, {
            "width": [(0, BadNumber("width")), (None, BadNumber("width"))],
        }, late)


class ShowsTest(unittest.TestCase, OrderMixin):
    def test_as_the_areas_tell(self):
        seen = {True: 0, False: 0}
        for one, other in moves():
            areas = quadratics(one, other)
            clear = not any(has_zero(areas[land], 0, 1) for land in areas)
            self.assertIs(shows_straight(one, other, Clear()), clear)
            lands = list(areas)[:12]
            for low, high in itertools.combinations(MOMENTS, 2):
                upright = not any(has_zero(areas[land], 0, low) for land in areas)
                for land in lands:
                    wanted = upright and has_zero(areas[land], low, high)
                    self.assertIs(shows_straight(one, other, Falls(land, low, high)), wanted)
                    seen[wanted] += 1
                self.assertIs(shows_straight(one, other, Falls(lands[0], high, low)), False)
                self.assertIs(shows_straight(one, other, Falls(lands[0], low, low)), False)
        self.assertGreater(min(seen.values()), 100)

    def test_told_ones(self):
        for land in turns((0, 4, 3)):
            for low, high in ((0, (1, 8)), (0, 1), (0, [2, 16]), ((0, 5), [3, 3]), ((1, 13), (1, 12)), ((1, 1000), 1)):
                self.assertIs(shows_straight(BEGIN, END, Falls(land, low, high)), True)
                self.assertIs(shows_straight(value=Falls(list(land), low, high), other=END, one=BEGIN), True)
            for low, high in (((1, 8), 1), ((1, 12), (1, 8)), (0, (1, 14)), (0, 0), (1, 1), (1, 0), ((1, 8), 0), (0, 2), (0, (9, 8)),
                              (-1, 1), ((-1, 8), (1, 8)), (0, (-1, 8)), (0, (1000001, 10 ** 6)), ((3, 4), 1)):
                self.assertIs(shows_straight(BEGIN, END, Falls(land, low, high)), False)
        for land in ((1, 3, 4), (0, 3, 4), (4, 0, 3), (0, 1, 4), (0, 3, 2), (0, 1, 2), (0, 1, 3)):
            self.assertIs(shows_straight(BEGIN, END, Falls(land, 0, 1)), False)
        self.assertIs(shows_straight(BEGIN, END, Clear()), False)
        self.assertIs(shows_straight(ONE, OTHER, Clear()), True)

    def test_a_zero_at_high_counts_and_at_low_not(self):
        # Dot 4 goes past the tie of dots 0 and 3, and back: its area there is 12 - 64 t + 64 t t.
        found = [Placing(TWO, [*WIDE_CORNER, (12, 4), (6, 1)]), Placing(TWO, [*WIDE_CORNER, (4, 12), ((9, 2), (21, 2))])]
        self.assertEqual(quadratics(*found)[(0, 4, 3)], (12, -64, 64))
        for low, high, wanted in (
            (0, (1, 4), True), (0, (249999, 10 ** 6), False), ((249999, 10 ** 6), (1, 4), True), ((249999, 10 ** 6), 1, True),
            ((1, 4), 1, False), ((1, 4), (3, 4), False), ((1, 2), (3, 4), False), ((3, 4), 1, False),
        ):
            self.assertIs(shows_straight(*found, Falls((0, 4, 3), low, high)), wanted)
        for width in (1, (1, 4), (1, 5)):
            self.assertEqual(judged_straight(*found, width).high, (1, 1) if width == 1 else (1, 4))

    def test_a_land_that_is_flat_just_once(self):
        # The area is 8 (1 - 2 t) (1 - 2 t): nothing is turned over, but at 1/2 a land is flat.
        found = [Placing(TWO, [*WIDE_CORNER, (12, 4), (5, 1)]), Placing(TWO, [*WIDE_CORNER, (4, 12), (3, 7)])]
        numbers = quadratics(*found)[(0, 4, 3)]
        self.assertEqual(numbers, (8, -32, 32))
        self.assertIs(shows_straight(*found, Clear()), False)
        self.assertIs(shows_straight(*found, Falls((0, 4, 3), 0, (1, 2))), True)
        self.assertIs(shows_straight(*found, Falls((0, 4, 3), (1, 2), 1)), False)
        self.assertEqual(judged_straight(*found, (1, 8)), Falls((0, 4, 3), (3, 8), (1, 2)))

    def test_a_late_fall(self):
        # The area of (0, 4, 3) is a third of (6 - 8 t) (7 - 8 t): it is below 0 from 3/4 to 7/8 only.
        found = [Placing(TWO, [*WIDE_CORNER, (12, 4), ((13, 2), 1)]), Placing(TWO, [*WIDE_CORNER, (4, 12), ((31, 12), (91, 12))])]
        third = Fraction(1, 3)
        self.assertEqual(quadratics(*found)[(0, 4, 3)], (42 * third, -104 * third, 64 * third))
        self.assertEqual(judged_straight(*found, (1, 8)), Falls((0, 4, 3), (5, 8), (3, 4)))
        self.assertEqual(judged_straight(*found, (1, 16)), Falls((0, 4, 3), (11, 16), (3, 4)))
        self.assertIs(shows_straight(*found, Falls((0, 4, 3), (5, 8), (3, 4))), True)
        self.assertIs(shows_straight(*found, Falls((0, 4, 3), (3, 4), (7, 8))), False)

    def test_other_values(self):
        right = judged_straight(BEGIN, END, (1, 9))

        class Fake(Falls):
            pass

        class Also(Clear):
            pass

        values = [*NOTHINGS, Clear, Falls, right.parts, Paper("clear"), Denial("falls", *right.parts), Same(), Sound(), Flows(),
                  Fake(*right.parts), Also(), [right], Fallen((0, 4, 3)), BEGIN]
        for wrong in (*NO_FRACTIONS, "0"):
            values.extend([Falls((0, 4, 3), wrong, 1), Falls((0, 4, 3), 0, wrong), Falls((0, 4, 3), wrong, wrong)])
        values.extend([Falls(wrong, 0, 1) for wrong in (*NO_LANDS, *NO_DOTS)])
        values.extend([Falls((False, 4, 3), 0, 1), Falls((0, 4, 3), False, True), Falls((0, 4, 3), 0, True), Falls((0.0, 4, 3), 0, 1)])
        for value in values:
            for one, other in ((BEGIN, END), (ONE, OTHER)):
                self.assertIs(shows_straight(one, other, value), False)

    def test_errors(self):
        wrong = {"one": [(value, BadPlacing("one")) for value in NO_PLACINGS],
                 "other": [(value, BadPlacing("other")) for value in NO_PLACINGS]}
        late = [(changes, error) for changes, error in misfits({}) if type(error) is Misfit]
        for value in (Clear(), Falls((0, 1, 3), 0, 1), None, Falls(None, None, None)):
            self.check_order(shows_straight, {"one": ONE, "other": OTHER, "value": value}, wrong, late)

    def test_parameters(self):
        for name, wanted in (
            ("straight_at", ["one", "other", "moment"]), ("judged_straight", ["one", "other", "width"]),
            ("shows_straight", ["one", "other", "value"]), ("Clear", []), ("Falls", ["land", "low", "high"]),
        ):
            self.assertEqual(list(inspect.signature(getattr(straights, name)).parameters), wanted)
            self.assertEqual(getattr(straights, name).__module__, "mapflow.straights")


if __name__ == "__main__":
    unittest.main()
