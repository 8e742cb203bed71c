"""Which papers Always are right."""

import inspect
import random
import unittest

from mapflow import check_moments
from mapflow.builds import Same
from mapflow.check_moments import shows_flow
from mapflow.drawings import Sound
from mapflow.errors import BadPlacing
from mapflow.flows import Flows
from mapflow.maps import Map
from mapflow.moments import Always, judged_flow
from mapflow.papers import Denial, Paper
from mapflow.polys import poly_times
from tests.samples import NO_FRACTIONS, NOTHINGS, OrderMixin, ears, number, some_drawing, some_map
from tests.test_drawings import NO_PLACINGS
from tests.test_flows import CALM, LEFT, ONE, OTHER, misfits
from tests.test_moments import pairs_of_drawings
from tests.test_polys import NO_POLYS

ABOVE = ([2], [(1, 999983)], [1, 1], [1, (-1, 2)], [1, 0, 1], [3, 0, 0, -2], [1, -4, 5], [1, -2, 3, -1], [(3, 2), -5, 5], [(1, 7)] * 6)
NOT_ABOVE = (
    [], [-1], [(-1, 7)], [0, 1], [1, -1], [1, -2], [1, -4, 4], [1, -6, 9], [-1, 2], [1, -5, 5], [-1, -1], [1, 0, -2], [1, 0, -4, 0, 4],
    [(299, 1000), -1, 1, -1],
)


def times_all(paper, poly):
    """The Always with all polynomials taken times this one."""
    return Always(poly_times(paper.down, poly), [[poly_times(part, poly) for part in both] for both in paper.places])


def with_poly(paper, at, change):
    """The Always with one polynomial changed: at is None for down, otherwise (k, axis)."""
    down, places = list(paper.down), [[list(part) for part in both] for both in paper.places]
    if at is None:
        down = change(down)
    else:
        places[at[0]][at[1]] = change(places[at[0]][at[1]])
    return Always(down, places)


def spots(paper):
    return [None, *[(k, axis) for k in range(len(paper.places)) for axis in (0, 1)]]


class ShowsTest(unittest.TestCase, OrderMixin):
    def check(self, one, other, value, wanted):
        self.assertIs(shows_flow(one, other, value), wanted)

    def test_judged_ones(self):
        for one, other in pairs_of_drawings():
            self.check(one, other, judged_flow(one, other), True)
            self.assertIs(shows_flow(value=judged_flow(one, other), other=other, one=one), True)

    def test_taken_times_a_polynomial(self):
        for one, other in pairs_of_drawings()[:14]:
            paper = judged_flow(one, other)
            for poly in ABOVE:
                self.check(one, other, times_all(paper, poly), True)
            for poly in NOT_ABOVE:
                self.check(one, other, times_all(paper, poly), False)

    def test_of_another_flow(self):
        for one, other in pairs_of_drawings():
            there, back = judged_flow(one, other), judged_flow(other, one)
            self.check(other, one, there, there == back)
            self.check(one, one, there, judged_flow(one, one) == there)
            third = some_drawing(77, one.chart, [one.places[dot] for dot in one.chart.frame])
            self.check(one, third, there, judged_flow(one, third) == there)

    def test_one_number_changed(self):
        chance = random.Random(1)
        for one, other in pairs_of_drawings()[:12]:
            paper = judged_flow(one, other)
            if not paper.places:
                continue
            for at in spots(paper):
                for add in (1, -1, (1, 10 ** 12)):
                    def changed(poly):
                        k = chance.randrange(len(poly) + 1)
                        poly = poly + [(0, 1)] * (k == len(poly))
                        part = number(poly[k]) + number(add)
                        return [*poly[:k], (part.numerator, part.denominator), *poly[k + 1:]]

                    self.check(one, other, with_poly(paper, at, changed), False)
                self.check(one, other, with_poly(paper, at, lambda poly: []), False)
                self.check(one, other, with_poly(paper, at, lambda poly: poly_times(poly, [2])), False)
                self.check(one, other, with_poly(paper, at, lambda poly: poly_times(poly, [-1])), False)

    def test_polynomials_left_out_or_put_in(self):
        for one, other in pairs_of_drawings():
            paper = judged_flow(one, other)
            down, places = paper.down, paper.places
            more = places[:1] or ((down, down),)
            wrong = [Always(down, places + more), Always(down, more + places), Always(down, (places,)), Always(places, down),
                     Always(down, None), Always(None, places), Always(down, [*places, []]), Always((down,), places)]
            if places:
                wrong.extend([Always(down, places[1:]), Always(down, places[:-1]), Always(down, ()), Always(down, places[0])])
                wrong.extend([Always(down, [part, *places[1:]]) for part in (
                    places[0][:1], places[0] + places[0][:1], (), places[0][0], None, (None, places[0][1]), (places[0][0], None))])
            if len(places) > 1:
                wrong.append(Always(down, places[::-1]))
            for value in wrong:
                self.check(one, other, value, False)

    def test_told_otherwise(self):
        paper = judged_flow(CALM, LEFT)
        right = [
            Always([[7 * up, 7 * down] for up, down in paper.down], paper.places),
            Always(list(paper.down) + [0, (0, 5), [0, 9]], [[list(part) + [0] for part in both] for both in paper.places]),
            with_poly(paper, (0, 0), lambda poly: poly + [0] * (80 - len(poly))),
            with_poly(paper, None, lambda poly: poly + [(0, 3)] * (80 - len(poly))),
        ]
        for value in right:
            self.check(CALM, LEFT, value, True)
        whole = Always([2], [([2], [2, -1])])
        self.check(ONE, OTHER, whole, True)
        self.check(ONE, OTHER, Always([(2, 1)], (((2,), ([4, 2], (-3, 3))),)), True)
        self.check(ONE, OTHER, Always([1, 1], [[(1, 1), (1, (1, 2), (-1, 2))]]), True)
        self.check(ONE, OTHER, Always([1], [([1], [1])]), False)
        self.check(ONE, OTHER, Always([-1], [([-1], [-1, (1, 2)])]), False)
        self.check(ONE, OTHER, Always([1, -1], [([1, -1], [1, (-3, 2), (1, 2)])]), False)

    def test_how_long_polynomials_are(self):
        paper = judged_flow(ONE, OTHER)
        for at in spots(paper):
            self.check(ONE, OTHER, with_poly(paper, at, lambda poly: poly + [0] * (80 - len(poly))), True)
            self.check(ONE, OTHER, with_poly(paper, at, lambda poly: poly + [0] * (81 - len(poly))), False)
        for many in (40, 78, 79):
            # That of y has many + 1 numbers.
            self.check(ONE, OTHER, times_all(paper, [1] * many), True)
            self.check(ONE, OTHER, times_all(paper, [1, -2, 1] + [0] * (many - 4) + [(1, 5)]), True)
            self.check(ONE, OTHER, times_all(paper, [1, -1] + [0] * (many - 3) + [(-1, 5)]), False)
        long = Always([1] * 80, [([1] * 80, [1] + [(1, 2)] * 79 + [(-1, 2)])])
        self.assertEqual(len(long.places[0][1]), 81)
        self.check(ONE, OTHER, long, False)
        chance = random.Random(3)
        poly = [(chance.randint(1, 999999), chance.randint(1, 999999)) for _ in range(80)]
        self.check(ONE, ONE, Always(poly, [(poly, poly)]), True)
        poly[0] = -1
        self.check(ONE, ONE, Always(poly, [(poly, poly)]), False)

    def test_without_inner_dots(self):
        for chart in (Map([(0, 2, 1)]), ears(5)):
            one = some_drawing(0, chart)
            for down, wanted in (([1], True), ([(1, 7), 1], True), ([2, -1], True), ([1, -1], False), ([], False), ([0], False),
                                 ([-3], False), (None, False), (1, False), ([True], False), ((0, 1), False)):
                self.check(one, one, Always(down, []), wanted)
                self.check(one, one, Always(down, [([1], [1])]), False)

    def test_other_values(self):
        paper = judged_flow(ONE, OTHER)

        class Fake(Always):
            pass

        values = [*NOTHINGS, Always, paper.parts, (paper.down, paper.places), paper.down, Paper("always", *paper.parts), Sound(), Same(),
                  Flows(), Denial("always", *paper.parts), Fake(paper.down, paper.places), [paper], ONE]
        for wrong in NO_POLYS:
            # Of these some only tell nothing as polynomials.
            values.extend([with_poly(paper, at, lambda poly: wrong) for at in spots(paper)])
        for wrong in NO_FRACTIONS:
            values.extend([with_poly(paper, at, lambda poly: [wrong]) for at in spots(paper)])
        values.extend([Always([True], [([1], [1, (-1, 2)])]), Always([1], [([True], [1, (-1, 2)])]),
                       Always([1], [([1], [1, (-1, 2), False])]), Always([1], {0: 1}), Always([1], "12"), Always([1], [{}])])
        for value in values:
            self.check(ONE, OTHER, value, False)

    def test_six_inner_dots(self):
        one, other = [some_drawing(seed, some_map(3, 4, 6)) for seed in (0, 1)]
        self.check(one, other, judged_flow(one, other), True)
        self.check(other, one, judged_flow(one, other), False)

    def test_errors(self):
        wrong = {"one": [(value, BadPlacing("one")) for value in NO_PLACINGS],
                 "other": [(value, BadPlacing("other")) for value in NO_PLACINGS]}
        for value in (judged_flow(ONE, OTHER), None, Always(None, 3)):
            self.check_order(shows_flow, {"one": ONE, "other": OTHER, "value": value}, wrong, misfits({}))

    def test_parameters(self):
        self.assertEqual(list(inspect.signature(check_moments.shows_flow).parameters), ["one", "other", "value"])
        self.assertEqual(shows_flow.__module__, "mapflow.check_moments")


if __name__ == "__main__":
    unittest.main()
