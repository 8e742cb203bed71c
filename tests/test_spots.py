"""Spots, places with told shares, places carried from drawing to drawing, and along a flow."""

import inspect
import itertools
import unittest
from fractions import Fraction

from mapflow import spots
from mapflow.builds import fan_map, mirrored_map, renamed
from mapflow.drawings import Placing, spread
from mapflow.errors import BadLand, BadNumber, BadPlace, BadPlacing, Misfit, TooMany
from mapflow.flows import film_of
from mapflow.maps import Map
from mapflow.spots import carried, place_at, spot_of, trail_of
from mapflow.weights import even_weights, rest_of
from tests.samples import (
    NO_FRACTIONS, NOTHINGS, OrderMixin, area, ears, even_drawing, number, pair, parabola, point, some_drawing, some_map, some_maps,
)
from tests.test_builds import NO_LANDS, turns
from tests.test_drawings import NO_PLACES, NO_PLACINGS, SIDES, SQUARE
from tests.test_flows import CALM, CROWD, LEFT, ONE, OTHER, OTHERS, misfits
from tests.test_rings import NO_COUNTS
from tests.test_tellback import AMID, ASIDE, NO_DRAWINGS

SHARES = ((1, 0, 0), (0, [2, 2], 0), (0, 0, 1), ((1, 2), [2, 4], 0), (0, (1, 3), (2, 3)), ((1, 4), 0, (3, 4)), [(1, 3), (2, 6), (1, 3)],
          ((1, 999983), (1, 7), (999983 * 7 - 7 - 999983, 999983 * 7)), ((1, 6), (1, 3), [1, 2]))
# Lists of three fractions from 0 on that are not 1 together, and others.
NO_TRIPLES = [value for value in NOTHINGS] + [
    (), [1], (1, 0), [1, 0, 0, 0], (1, 0, (1, 2)), (0, 0, 0), [(1, 2), (1, 2), (1, 2)], ((1, 2), (1, 4), (249999, 10 ** 6)),
    (-1, 1, 1), [2, -1, 0], ((3, 2), 0, (-1, 2)), (0, (-1, 10 ** 9), (10 ** 9 + 1, 10 ** 9)), "100", {0: 1, 1: 0, 2: 0}, {0, 1},
    ((1, 0, 0),), (1, 1, -1),
] + [triple for wrong in NO_FRACTIONS for triple in ((wrong, 0, 1), [0, wrong, 1], (1, 0, wrong))]


def shares_in(placing, land, place):
    """The shares of a place in a land, below 0 too where it is outside."""
    corners, spot = [point(placing.places[dot]) for dot in land], point(place)
    whole = area(*corners)
    return tuple(area(*[spot if k == at else corner for at, corner in enumerate(corners)]) / whole for k in range(3))


def spots_at(placing, place):
    """All lands in which a place lies, with its shares there, ascending."""
    found = [(land, shares_in(placing, land, place)) for land in sorted(placing.chart.lands)]
    return [(land, tuple(pair(share) for share in shares)) for land, shares in found if min(shares) >= 0]


def some_drawings():
    found = [AMID, ASIDE, CALM, LEFT, ONE]
    for seed, chart in enumerate(some_maps()):
        found.extend([some_drawing(seed, chart), even_drawing(chart)])
    return found


def mean(placing, land, shares):
    spots_ = [point(placing.places[dot]) for dot in land]
    return tuple(pair(sum(number(share) * spot[k] for share, spot in zip(shares, spots_))) for k in (0, 1))


def some_places(placing):
    """Places at dots, on ties, within lands, on the frame and outside."""
    found = list(placing.places)
    for land in placing.chart.lands:
        found.extend([mean(placing, land, shares) for shares in SHARES])
    xs, ys = zip(*[point(place) for place in placing.places])
    for x in (min(xs) - 1, min(xs), (min(xs) + max(xs)) / 2, max(xs), max(xs) + Fraction(1, 10 ** 6)):
        for y in (min(ys) - Fraction(1, 10 ** 6), min(ys), (2 * min(ys) + max(ys)) / 3, max(ys), max(ys) + 1):
            found.append((pair(x), pair(y)))
    return found


class SpotTest(unittest.TestCase, OrderMixin):
    def test_the_least_land(self):
        seen = {0: 0, 1: 0, 2: 0, 3: 0}
        for placing in some_drawings():
            for place in some_places(placing):
                told = spots_at(placing, place)
                made = spot_of(placing, place)
                self.assertEqual(repr(made), repr(told[0] if told else None))
                seen[min(3, len(told))] += 1
        self.assertGreater(min(seen.values()), 50)

    def test_shares_make_the_place(self):
        for placing in some_drawings():
            for place in some_places(placing):
                made = spot_of(placing, list(place))
                if made is not None:
                    land, shares = made
                    self.assertIn(land, placing.chart.lands)
                    self.assertEqual(sum(number(share) for share in shares), 1)
                    self.assertGreaterEqual(min(number(share) for share in shares), 0)
                    self.assertEqual(mean(placing, land, shares), tuple(pair(part) for part in point(place)))
                    self.assertEqual(place_at(placing, land, shares), tuple(pair(part) for part in point(place)))

    def test_outside(self):
        for placing in some_drawings():
            frame = [point(placing.places[dot]) for dot in placing.chart.frame]
            for place in some_places(placing):
                sides = [area(frame[k - 1], frame[k], point(place)) for k in range(len(frame))]
                self.assertIs(spot_of(placing, place) is None, min(sides) < 0)

    def test_told_ones(self):
        self.assertEqual(spot_of(place=(2, 1), placing=AMID), ((0, 1, 4), ((1, 4), (1, 4), (1, 2))))
        self.assertEqual(spot_of(AMID, [3, 1]), ((0, 1, 4), ((0, 1), (1, 2), (1, 2))))
        self.assertEqual(spot_of(AMID, (2, 2)), ((0, 1, 4), ((0, 1), (0, 1), (1, 1))))
        self.assertEqual(spot_of(AMID, ([4, 2], 4)), ((2, 3, 4), ((1, 2), (1, 2), (0, 1))))
        for place in ((5, 0), (2, (-1, 10 ** 9)), (-1, 2), ((4000001, 10 ** 6), 2)):
            self.assertIs(spot_of(AMID, place), None)

    def test_errors(self):
        self.check_order(spot_of, {"placing": AMID, "place": (2, 1)}, {
            "placing": [(value, BadPlacing("placing")) for value in NO_PLACINGS],
            "place": [(value, BadPlace("place")) for value in NO_PLACES],
        }, [({"placing": placing, "place": place}, Misfit("placing")) for placing in NO_DRAWINGS for place in ((2, 1), (99, 99))])


class PlaceTest(unittest.TestCase, OrderMixin):
    def test_places(self):
        for placing in some_drawings():
            for land in placing.chart.lands:
                for shares in SHARES:
                    wanted = mean(placing, land, shares)
                    for k, told in enumerate(turns(land)):
                        turned = [*shares[k:], *shares[:k]]
                        self.assertEqual(repr(place_at(placing, told, turned)), repr(wanted))
                        self.assertEqual(place_at(placing, list(told), tuple(turned)), wanted)

    def test_back_from_the_place(self):
        for placing in some_drawings():
            for land in placing.chart.lands:
                for shares in SHARES:
                    told = dict(spots_at(placing, place_at(placing, land, shares)))
                    self.assertEqual(told[land], tuple(pair(number(share)) for share in shares))

    def test_told_ones(self):
        self.assertEqual(place_at(AMID, (0, 1, 4), [(1, 4), (1, 4), (1, 2)]), ((2, 1), (1, 1)))
        self.assertEqual(place_at(shares=[(1, 2), [2, 4], 0], land=[1, 4, 0], placing=AMID), ((3, 1), (1, 1)))

    def test_errors(self):
        lands = [*NO_LANDS, (0, 2, 4), (4, 1, 0), [0, 4, 1], (1, 3, 4)]
        late = [({"placing": placing}, Misfit("placing")) for placing in NO_DRAWINGS if placing.chart == SQUARE]
        self.check_order(place_at, {"placing": AMID, "land": (0, 1, 4), "shares": (0, (1, 2), (1, 2))}, {
            "placing": [(value, BadPlacing("placing")) for value in NO_PLACINGS],
            "land": [(value, BadLand("land")) for value in lands],
            "shares": [(value, BadNumber("shares")) for value in NO_TRIPLES],
        }, late)


class CarriedTest(unittest.TestCase, OrderMixin):
    def pairs_of_drawings(self):
        found = [(AMID, ASIDE), (CALM, LEFT), (AMID, AMID)]
        for seed, chart in enumerate(some_maps()):
            one, other = some_drawing(seed, chart), some_drawing(seed + 1, chart)
            # The other frame is a sheared parabola, elsewhere.
            found.append((one, spread(other, ((3, 2), (-1, 5), 7, (1, 3), 1, -2))))
            wide = rest_of(even_weights(chart), [(3 * x, 5 * x * x + 1) for x, _ in parabola(len(chart.frame))])
            found.append((one, wide))
        return found

    def test_the_same_shares_in_the_same_land(self):
        for one, other in self.pairs_of_drawings():
            for place in some_places(one):
                told = spots_at(one, place)
                if not told:
                    self.assertRaisesWith(Misfit("place"), carried, one, other, place)
                    continue
                made = carried(one, other, place)
                for land, shares in told:
                    self.assertEqual(repr(made), repr(mean(other, land, shares)))

    def test_there_and_back(self):
        for one, other in self.pairs_of_drawings():
            seen = {}
            for place in some_places(one):
                if spot_of(one, place) is not None:
                    there = carried(one, other, place)
                    back = carried(other=one, one=other, place=there)
                    self.assertEqual(back, tuple(pair(part) for part in point(place)))
                    seen.setdefault(there, set()).add(back)
            self.assertTrue(all(len(places) == 1 for places in seen.values()))
            for dot in range(one.chart.dots):
                self.assertEqual(carried(one, other, one.places[dot]), other.places[dot])

    def test_told_ones(self):
        self.assertEqual([carried(AMID, ASIDE, (3, 1)), carried(ASIDE, AMID, ((5, 2), 1)), carried(AMID, ASIDE, (4, 4))],
                         [((5, 2), (1, 1)), ((3, 1), (1, 1)), ((4, 1), (4, 1))])
        half = spread(AMID, ((1, 2), 0, 0, 0, (1, 2), 0))
        self.assertEqual(carried(AMID, half, (3, 1)), ((3, 2), (1, 2)))

    def test_more_inner_dots_than_a_flow_can_have(self):
        centre = CROWD[0].places[CROWD[0].chart.inner[-1]]
        self.assertEqual(carried(*CROWD, centre), CROWD[1].places[CROWD[1].chart.inner[-1]])

    def test_errors(self):
        late = [({"one": one, "place": place, **more}, Misfit("one")) for one in NO_DRAWINGS for place in ((2, 1), (99, 99))
                for more in ({}, {"other": NO_DRAWINGS[0]}, {"other": ONE})]
        others = [*OTHERS[:2], *NO_DRAWINGS, CALM, ONE, Placing(mirrored_map(SQUARE), [(0, 0), (0, 4), (4, 4), (4, 0), (2, 2)]),
                  Placing(renamed(SQUARE, [4, 0, 1, 2, 3]), SIDES[1:] + [(2, 2), (0, 0)])]
        late.extend([({"other": other, "place": place}, Misfit("other")) for other in others for place in ((2, 1), (99, 99))])
        late.extend([({"place": place}, Misfit("place")) for place in ((5, 0), (2, (-1, 10 ** 9)), (99, 99), ((-1, 9), 2))])
        self.check_order(carried, {"one": AMID, "other": ASIDE, "place": (2, 1)}, {
            "one": [(value, BadPlacing("one")) for value in NO_PLACINGS],
            "other": [(value, BadPlacing("other")) for value in NO_PLACINGS],
            "place": [(value, BadPlace("place")) for value in NO_PLACES],
        }, late)


class TrailTest(unittest.TestCase, OrderMixin):
    def test_trails(self):
        found = [(AMID, ASIDE), (CALM, LEFT), (ONE, ONE)]
        for seed, chart in enumerate(some_maps()):
            found.append((some_drawing(seed, chart), some_drawing(seed + 1, chart)))
        for one, other in found:
            places = [place for place in some_places(one) if spots_at(one, place)]
            for place in places[::7]:
                for many in (1, 3):
                    made = trail_of(one, other, place, many)
                    self.assertIs(type(made), tuple)
                    wanted = tuple(carried(one, drawing, place) for drawing in film_of(one, other, many))
                    self.assertEqual(repr(made), repr(wanted))
                    self.assertEqual(made[0], tuple(pair(part) for part in point(place)))
                    self.assertEqual(made[-1], carried(one, other, place))

    def test_told_ones(self):
        self.assertEqual(trail_of(AMID, ASIDE, (2, 2), 2), (((2, 1), (2, 1)), ((3, 2), (2, 1)), ((1, 1), (2, 1))))
        made = trail_of(many=40, place=[3, 1], other=ASIDE, one=AMID)
        self.assertEqual((len(made), made[0], made[-1]), (41, ((3, 1), (1, 1)), ((5, 2), (1, 1))))
        self.assertEqual(trail_of(AMID, ASIDE, (4, 1), 1), (((4, 1), (1, 1)),) * 2)

    def test_errors(self):
        late = [({**changes, "place": place}, error) for changes, error in misfits({}) for place in ((1, 1), (99, 99))]
        late.extend([({"place": place}, Misfit("place")) for place in ((5, 0), (99, 99), (1, (-1, 10 ** 9)), (2, 2))])
        self.check_order(trail_of, {"one": ONE, "other": OTHER, "place": (1, 1), "many": 2}, {
            "one": [(value, BadPlacing("one")) for value in NO_PLACINGS],
            "other": [(value, BadPlacing("other")) for value in NO_PLACINGS],
            "place": [(value, BadPlace("place")) for value in NO_PLACES],
            "many": [(value, BadNumber("many")) for value in (*[wrong for wrong in NO_COUNTS if wrong != 13], 41)],
        }, late)
        self.assertRaisesWith(TooMany("inner", 20), trail_of, *CROWD, (999, 999), 1)
        for many in (0, 41, -1):
            self.assertRaisesWith(BadNumber("many"), trail_of, ONE, CALM, (99, 99), many)
            self.assertRaisesWith(BadPlace("place"), trail_of, ONE, CALM, (99, None), many)

    def test_what_is_passed_stays(self):
        place, shares, land = [[2, 1], [2, 2]], [[1, 2], [1, 4], [2, 8]], [1, 4, 0]
        for call, args in ((spot_of, (AMID, place)), (place_at, (AMID, land, shares)), (carried, (AMID, ASIDE, place)),
                           (trail_of, (AMID, ASIDE, place, 2))):
            call(*args)
        self.assertEqual((place, shares, land), ([[2, 1], [2, 2]], [[1, 2], [1, 4], [2, 8]], [1, 4, 0]))

    def test_without_inner_dots(self):
        one = some_drawing(0, Map([(0, 1, 2)]))
        self.assertEqual(trail_of(one, one, one.places[1], 1), (one.places[1],) * 2)
        for placing in (one, some_drawing(0, ears(6)), some_drawing(3, some_map(3, 5, 5)), Placing(fan_map(3), [*ONE.places])):
            for land, shares in itertools.product(placing.chart.lands, SHARES[:4]):
                self.assertIsNot(spot_of(placing, place_at(placing, land, shares)), None)

    def test_parameters(self):
        for name, wanted in (
            ("spot_of", ["placing", "place"]), ("place_at", ["placing", "land", "shares"]), ("carried", ["one", "other", "place"]),
            ("trail_of", ["one", "other", "place", "many"]),
        ):
            self.assertEqual(list(inspect.signature(getattr(spots, name)).parameters), wanted)
            self.assertEqual(getattr(spots, name).__module__, "mapflow.spots")


if __name__ == "__main__":
    unittest.main()
