"""The polynomials of a flow: down, what stands above it, areas, the paper Always."""

import inspect
import itertools
import unittest
from fractions import Fraction

from mapflow import moments
from mapflow.drawings import Placing, area_of
from mapflow.errors import BadLand, BadPlacing, Misfit, TooMany
from mapflow.flows import flow_at
from mapflow.maps import Map
from mapflow.moments import Always, area_poly, flow_polys, judged_flow
from mapflow.papers import Paper
from mapflow.polys import value_at
from mapflow.tellback import weights_of
from tests.samples import OrderMixin, ears, number, pair, point, some_drawing, some_map
from tests.test_builds import NO_LANDS, turns
from tests.test_drawings import NO_PLACINGS
from tests.test_flows import CALM, CROWD, FAR, LEFT, ONE, OTHER, misfits
from tests.test_polys import pairs, product, total, value

MOMENTS = (0, (1, 7), (1, 2), [2, 3], (999, 1000), 1)


def pairs_of_drawings():
    """Pairs of drawings of one map in one frame, with up to four inner dots."""
    found = [(ONE, OTHER), (OTHER, ONE), (ONE, ONE), (CALM, LEFT)]
    for seed, (corners, inner) in enumerate(itertools.product((3, 4, 6), range(5))):
        chart = some_map(seed, corners, inner, names=seed % 2 == 1)
        found.append((some_drawing(seed, chart), some_drawing(seed + 1, chart)))
    return found


def between(first, last):
    """The polynomial that goes from a fraction at 0 to one at 1."""
    return [number(first), number(last) - number(first)]


def table_of(one, other):
    """For each inner dot its row of polynomials, and its right sides for x and y, as the document tells them."""
    chart = one.chart
    rows, sides = [], []
    for dot, first, last in zip(chart.inner, weights_of(one).rows, weights_of(other).rows):
        row = [[Fraction(1)] if near == dot else [] for near in chart.inner]
        right = [[], []]
        for near, weight, more in zip(chart.rounds[dot], first, last):
            poly = between(weight, more)
            if near in chart.inner:
                row[chart.inner.index(near)] = [-part for part in poly]
            else:
                for k in (0, 1):
                    right[k] = total(right[k], [part * point(one.places[near])[k] for part in poly])
        rows.append(row)
        sides.append(right)
    return rows, sides


def over_orders(rows):
    """The sum over all orders."""
    found = []
    for order in itertools.permutations(range(len(rows))):
        turned = sum(1 for one, other in itertools.combinations(order, 2) if one > other)
        made = [Fraction((-1) ** turned)]
        for row, at in zip(rows, order):
            made = product(made, row[at])
        found = total(found, made)
    return found


def polys_told(one, other):
    """Down and what stands above it, by sums over all orders."""
    rows, sides = table_of(one, other)
    places = []
    for at in range(len(rows)):
        both = []
        for k in (0, 1):
            changed = [[*row[:at], right[k], *row[at + 1:]] for row, right in zip(rows, sides)]
            both.append(pairs(over_orders(changed)))
        places.append(tuple(both))
    return (pairs(over_orders(rows)), tuple(places))


def turned_about(poly):
    """The polynomial that has at t the value of this one at 1 - t."""
    found, power = [], [Fraction(1)]
    for part in poly:
        found = total(found, [number(part) * step for step in power])
        power = product(power, [Fraction(1), Fraction(-1)])
    return pairs(found)


class FlowPolysTest(unittest.TestCase, OrderMixin):
    def test_by_sums_over_all_orders(self):
        for one, other in pairs_of_drawings():
            self.assertEqual(repr(flow_polys(one, other)), repr(polys_told(one, other)))

    def test_divided_they_are_the_places(self):
        chart = some_map(3, 4, 6)
        for one, other in [*pairs_of_drawings(), (some_drawing(0, chart), some_drawing(1, chart))]:
            down, places = flow_polys(one, other)
            self.assertEqual(len(places), len(one.chart.inner))
            self.assertLessEqual(max(len(poly) for poly in [down, *[poly for both in places for poly in both]]), len(places) + 1)
            for moment in MOMENTS:
                placing = flow_at(one, other, moment)
                below = number(value_at(down, moment))
                self.assertGreater(below, 0)
                for dot, both in zip(one.chart.inner, places):
                    told = tuple(number(value_at(poly, moment)) / below for poly in both)
                    self.assertEqual(told, point(placing.places[dot]))

    def test_the_way_back(self):
        for one, other in pairs_of_drawings():
            down, places = flow_polys(one, other)
            wanted = (turned_about(down), tuple(tuple(turned_about(poly) for poly in both) for both in places))
            self.assertEqual(flow_polys(other=one, one=other), wanted)

    def test_few_inner_dots(self):
        for chart in (Map([(0, 1, 2)]), ears(6)):
            one = some_drawing(0, chart)
            self.assertEqual(flow_polys(one, one), (((1, 1),), ()))
        self.assertEqual(flow_polys(ONE, OTHER), (((1, 1),), ((((1, 1),), ((1, 1), (-1, 2))),)))
        # A flow that stands: each polynomial has one number, its value at all moments.
        for one, _ in pairs_of_drawings():
            down, places = flow_polys(one, one)
            for dot, both in zip(one.chart.inner, places):
                self.assertEqual([poly or ((0, 1),) for poly in both],
                                 [(pair(number(part) * number(down[0])),) for part in one.places[dot]])

    def test_great_fractions(self):
        chart = some_map(2, 5, 4)
        near = [Placing(chart, [((int(number(x) * 999983), 999983), (int(number(y) * 999979), 999979)) for x, y in one.places])
                for one in (some_drawing(1, chart), some_drawing(2, chart))]
        self.assertEqual(flow_polys(*near), polys_told(*near))

    def test_errors(self):
        wrong = {"one": [(wrong_one, BadPlacing("one")) for wrong_one in NO_PLACINGS],
                 "other": [(wrong_one, BadPlacing("other")) for wrong_one in NO_PLACINGS]}
        late = misfits({})
        for call in (flow_polys, judged_flow):
            self.check_order(call, {"one": ONE, "other": OTHER}, wrong, late)


class AreaTest(unittest.TestCase, OrderMixin):
    def area_told(self, one, other, land):
        down, places = polys_told(one, other)
        told = {dot: both for dot, both in zip(one.chart.inner, places)}
        spots = []
        for dot in land:
            if dot in told:
                spots.append([[number(part) for part in poly] for poly in told[dot]])
            else:
                spots.append([[part * number(step) for step in down] for part in point(one.places[dot])])

        def less(k, i, axis):
            return total(spots[k][axis], [-part for part in spots[i][axis]])

        whole = product(less(1, 0, 0), less(2, 0, 1))
        return pairs(total(whole, [-part for part in product(less(2, 0, 0), less(1, 0, 1))]))

    def test_by_places_above_down(self):
        for one, other in pairs_of_drawings():
            for land in one.chart.lands[:4]:
                made = area_poly(one, other, land)
                self.assertEqual(repr(made), repr(self.area_told(one, other, land)))
                self.assertLessEqual(len(made), 2 * len(one.chart.inner) + 1)
                for told in turns(land):
                    self.assertEqual(area_poly(one, other, list(told)), made)
                    self.assertEqual(area_poly(land=told, other=other, one=one), made)

    def test_areas_at_moments(self):
        for one, other in pairs_of_drawings():
            down, _ = flow_polys(one, other)
            for land in one.chart.lands:
                poly = area_poly(one, other, land)
                for moment in MOMENTS:
                    area = number(area_of(flow_at(one, other, moment), land))
                    self.assertEqual(value(poly, moment), area * value(down, moment) ** 2)

    def test_told_ones(self):
        self.assertEqual(area_poly(ONE, OTHER, (0, 1, 3)), ((3, 1), (-3, 2)))
        self.assertEqual(area_poly(ONE, OTHER, [3, 1, 2]), ((3, 1), (3, 2)))
        one = some_drawing(0, Map([(0, 1, 2)]))
        self.assertEqual(area_poly(one, one, (1, 2, 0)), (area_of(one, (0, 1, 2)),))

    def test_errors(self):
        wrong = {"one": [(wrong_one, BadPlacing("one")) for wrong_one in NO_PLACINGS],
                 "other": [(wrong_one, BadPlacing("other")) for wrong_one in NO_PLACINGS]}
        no_lands = [*NO_LANDS, (0, 2, 3), (3, 1, 0), [1, 0, 3], (0, 1, 4), (2, 1, 3)]
        late = misfits({"land": (0, 2, 3)}) + misfits({}) + [({"land": land}, BadLand("land")) for land in no_lands]
        self.check_order(area_poly, {"one": ONE, "other": OTHER, "land": (0, 1, 3)}, wrong, late)
        # A land that is none is told behind all else.
        for land in (None, (0, 1), (0, 1, 2), "012", {}):
            self.assertRaisesWith(BadPlacing("one"), area_poly, None, None, land)
            self.assertRaisesWith(BadPlacing("other"), area_poly, FAR, 3, land)
            self.assertRaisesWith(Misfit("other"), area_poly, ONE, FAR, land)
            self.assertRaisesWith(TooMany("inner", 20), area_poly, *CROWD, land)
            self.assertRaisesWith(BadLand("land"), area_poly, ONE, OTHER, land)


class AlwaysTest(unittest.TestCase):
    def test_paper(self):
        made = Always([1, [2, 3]], [([1], [0, 1])])
        self.assertEqual((made.word, made.parts, bool(made)), ("always", ((1, (2, 3)), (((1,), (0, 1)),)), True))
        self.assertEqual((made.down, made.places, Always.__bases__), ((1, (2, 3)), (((1,), (0, 1)),), (Paper,)))
        self.assertEqual(Always(places=(((1,), (0, 1)),), down=(1, (2, 3))), made)
        for wrong in (None, True, {}, "x", 3):
            self.assertEqual((Always(wrong, wrong).down, Always(wrong, wrong).places), (wrong, wrong))
        self.assertNotEqual(made, Always([1, [4, 6]], [([1], [0, 1])]))

    def test_judged(self):
        for one, other in pairs_of_drawings():
            made = judged_flow(one, other)
            self.assertIs(type(made), Always)
            self.assertEqual((made.down, made.places), flow_polys(one, other))
            self.assertIs(bool(made), True)
            self.assertEqual(judged_flow(other=other, one=one), made)

    def test_parameters(self):
        for name, wanted in (
            ("flow_polys", ["one", "other"]), ("area_poly", ["one", "other", "land"]), ("judged_flow", ["one", "other"]),
            ("Always", ["down", "places"]),
        ):
            self.assertEqual(list(inspect.signature(getattr(moments, name)).parameters), wanted)
            self.assertEqual(getattr(moments, name).__module__, "mapflow.moments")


if __name__ == "__main__":
    unittest.main()
