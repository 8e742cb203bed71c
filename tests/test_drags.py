"""Kernels, where a dot may stand, dots dragged, and how far they go."""

import inspect
import random
import unittest
from fractions import Fraction

from mapflow import drags
from mapflow.builds import fan_map, split_at
from mapflow.drags import dragged, kernel_of, may_stand, reach_of
from mapflow.drawings import Placing, Sound, judged_placing
from mapflow.errors import BadNumber, BadPlace, BadPlacing, Misfit
from mapflow.maps import Map
from tests.samples import (
    NO_DOTS, OrderMixin, area, ears, even_drawing, number, pair, point, some_drawing, some_maps,
)
from tests.test_drawings import NO_PLACES, NO_PLACINGS, SIDES, moved
from tests.test_flows import CALM, CROWD, LEFT, ONE
from tests.test_tellback import AMID, ASIDE, NO_DRAWINGS

PARTED = split_at(split_at(Map([(0, 1, 2)]), (0, 1, 2)), (0, 1, 3))
HELD = Placing(PARTED, [(0, 0), (6, 0), (0, 6), (2, 2), (2, 1)])


def ways(placing, dot):
    """The ways of the round of a dot, as pairs of points."""
    ring = [point(placing.places[near]) for near in placing.chart.rounds[dot]]
    return [(ring[k - 1], ring[k]) for k in range(len(ring))]


def cut_by(region, start, end):
    """What is left of a convex region on the left of a way."""
    found = []
    for k, corner in enumerate(region):
        ahead = region[k - 1]
        first, last = area(start, end, ahead), area(start, end, corner)
        if first * last < 0:
            found.append(tuple(old + (new - old) * first / (first - last) for old, new in zip(ahead, corner)))
        if last >= 0:
            found.append(corner)
    return found


def kernel_told(placing, dot):
    """The kernel: the frame, cut tie by tie along straight lines."""
    region = [point(placing.places[corner]) for corner in placing.chart.frame]
    for start, end in ways(placing, dot):
        region = cut_by(region, start, end)
    region = [corner for k, corner in enumerate(region) if corner != region[k - 1]]
    bends = [corner for k, corner in enumerate(region) if area(region[k - 1], corner, region[(k + 1) % len(region)]) > 0]
    first = bends.index(min(bends))
    return tuple(tuple(pair(part) for part in corner) for corner in bends[first:] + bends[:first])


def some_drawings():
    found = [HELD, AMID, ASIDE, CALM, LEFT, ONE]
    for seed, chart in enumerate(some_maps()):
        found.extend([some_drawing(seed, chart), even_drawing(chart)])
    # Rounds with ties on one line, and dots above one another.
    grid = Map([(0, 1, 8), (1, 2, 8), (2, 3, 8), (3, 4, 8), (4, 5, 8), (5, 6, 8), (6, 7, 8), (7, 0, 8)])
    corners = [(0, -5), (3, -3), (5, 0), (3, 3), (0, 5), (-3, 3), (-5, 0), (-3, -3)]
    found.extend([Placing(grid, corners + [place]) for place in ((0, 0), (1, 1), ((-9, 2), 0), ((1, 7), (-3, 2)))])
    bent = split_at(split_at(fan_map(4), (0, 1, 4)), (1, 2, 4))
    found.append(Placing(bent, SIDES + [(2, 2), (2, 1), (3, 2)]))
    found.append(Placing(bent, SIDES + [(1, 3), (2, 2), (3, 3)]))
    return [placing for placing in found if judged_placing(placing) == Sound()]


def each_dot():
    return [(placing, dot) for placing in some_drawings() for dot in placing.chart.inner]


def mean(*spots):
    return tuple(pair(sum(spot[k] for spot in spots) / len(spots)) for k in (0, 1))


def some_places(placing, dot):
    """Places at the corners of the kernel, on its sides, within, just within, just beyond, at dots, elsewhere."""
    chance = random.Random(dot)
    corners = [point(place) for place in kernel_of(placing, dot)]
    here = point(placing.places[dot])
    found = list(placing.places) + [tuple(pair(part) for part in corner) for corner in corners]
    for k, corner in enumerate(corners):
        found.extend([mean(corner, corners[k - 1]), mean(corner, here), mean(corner, corners[k - 1], here)])
        for share in (Fraction(10 ** 9 - 1, 10 ** 9), Fraction(10 ** 9 + 1, 10 ** 9), Fraction(3, 2)):
            side = [(one + other) / 2 for one, other in zip(corner, corners[k - 1])]
            found.append(tuple(pair(old + share * (new - old)) for old, new in zip(here, side)))
    found.extend([(chance.randint(-3, 9), (chance.randint(-9, 60), 4)) for _ in range(12)])
    return found


class KernelTest(unittest.TestCase, OrderMixin):
    def test_the_frame_cut_tie_by_tie(self):
        corners = {}
        for placing, dot in each_dot():
            made = kernel_of(placing, dot)
            self.assertEqual(repr(made), repr(kernel_told(placing, dot)))
            corners[len(made)] = corners.get(len(made), 0) + 1
        self.assertTrue({3, 4, 5} <= set(corners))

    def test_shape(self):
        for placing, dot in each_dot():
            made = [point(place) for place in kernel_of(placing, dot)]
            self.assertEqual(min(made), made[0])
            here = point(placing.places[dot])
            for k, corner in enumerate(made):
                self.assertGreater(area(made[k - 2], made[k - 1], corner), 0)
                self.assertGreater(area(made[k - 1], corner, here), 0)
                # Each side lies along a tie of the round.
                lines = [way for way in ways(placing, dot) if area(*way, made[k - 1]) == 0 == area(*way, corner)]
                self.assertTrue(lines)
                self.assertTrue(all(area(*way, spot) >= 0 for way in ways(placing, dot) for spot in (corner,)))

    def test_told_ones(self):
        self.assertEqual(kernel_of(dot=3, placing=HELD), (((0, 1), (3, 2)), ((2, 1), (1, 1)), ((4, 1), (2, 1)), ((0, 1), (6, 1))))
        self.assertEqual(kernel_of(HELD, 4), (((0, 1), (0, 1)), ((6, 1), (0, 1)), ((2, 1), (2, 1))))
        for placing in (AMID, ASIDE):
            self.assertEqual(kernel_of(placing, 4), tuple(tuple(pair(part) for part in corner) for corner in SIDES))

    def test_a_place_on_a_straight_side_is_no_corner(self):
        # Of the round of dot 5 the dots 0, 4 and 2 lie on one line.
        chart = Map([(0, 1, 4), (1, 2, 4), (0, 4, 5), (4, 2, 5), (2, 3, 5), (3, 0, 5)])
        drawing = Placing(chart, [(0, 0), (4, -1), (8, 0), (4, 8), (4, 0), (4, 3)])
        self.assertEqual(judged_placing(drawing), Sound())
        self.assertEqual(kernel_of(drawing, 5), (((0, 1), (0, 1)), ((8, 1), (0, 1)), ((4, 1), (8, 1))))

    def test_errors(self):
        late = [({"placing": placing, "dot": dot}, Misfit("placing")) for placing in NO_DRAWINGS for dot in (0, 4, 59)]
        late.extend([({"dot": dot}, Misfit("dot")) for dot in (0, 1, 2, 5, 6, 59)])
        self.check_order(kernel_of, {"placing": HELD, "dot": 3}, {
            "placing": [(value, BadPlacing("placing")) for value in NO_PLACINGS],
            "dot": [(value, BadNumber("dot")) for value in NO_DOTS],
        }, late)
        self.assertRaisesWith(Misfit("dot"), kernel_of, some_drawing(0, ears(5)), 2)


class StandTest(unittest.TestCase, OrderMixin):
    def test_as_drawings_tell(self):
        seen = {True: 0, False: 0}
        for placing, dot in each_dot():
            for place in some_places(placing, dot):
                wanted = judged_placing(moved(placing, dot, place)) == Sound()
                self.assertIs(may_stand(placing, dot, place), wanted)
                seen[wanted] += 1
            self.assertIs(may_stand(placing, dot, placing.places[dot]), True)
            for corner in kernel_of(placing, dot):
                self.assertIs(may_stand(placing, dot, corner), False)
        self.assertGreater(min(seen.values()), 200)

    def test_told_ones(self):
        for place, wanted in (((1, 2), True), ((1, 1), False), ((2, 1), False), ([(7, 2), (9, 4)], True), ((0, 3), False)):
            self.assertIs(may_stand(place=place, dot=3, placing=HELD), wanted)

    def test_dragged_there_and_back(self):
        for placing, dot in each_dot():
            for place in some_places(placing, dot):
                if not may_stand(placing, dot, place):
                    self.assertRaisesWith(Misfit("place"), dragged, placing, dot, place)
                    continue
                made = dragged(placing, dot, list(place))
                self.assertIs(type(made), Placing)
                self.assertEqual(made, moved(placing, dot, place))
                self.assertEqual(judged_placing(made), Sound())
                self.assertEqual(dragged(made, dot, placing.places[dot]), placing)
                self.assertEqual(kernel_of(made, dot), kernel_of(placing, dot))
        self.assertEqual(dragged(dot=3, placing=HELD, place=(1, 2)).places[3], ((1, 1), (2, 1)))

    def test_more_inner_dots_than_a_flow_can_have(self):
        dot = CROWD[0].chart.inner[-1]
        self.assertIs(may_stand(CROWD[0], dot, CROWD[0].places[dot]), True)
        self.assertEqual(len(kernel_of(CROWD[0], dot)), 3)

    def test_errors(self):
        wrong = {
            "placing": [(value, BadPlacing("placing")) for value in NO_PLACINGS],
            "dot": [(value, BadNumber("dot")) for value in NO_DOTS],
            "place": [(value, BadPlace("place")) for value in NO_PLACES],
        }
        late = [({"placing": placing, "dot": dot, "place": place}, Misfit("placing")) for placing in NO_DRAWINGS
                for dot in (0, 4, 59) for place in ((2, 1), (99, 99))]
        late.extend([({"dot": dot, "place": place}, Misfit("dot")) for dot in (0, 2, 5, 59) for place in ((1, 2), (99, 99))])
        for call in (may_stand, reach_of):
            self.check_order(call, {"placing": HELD, "dot": 3, "place": (1, 2)}, wrong, late)
        late.extend([({"place": place}, Misfit("place")) for place in ((1, 1), (2, 1), (0, 3), (99, 99), ((1, 3), (4, 3)))])
        self.check_order(dragged, {"placing": HELD, "dot": 3, "place": (1, 2)}, wrong, late)


class ReachTest(unittest.TestCase, OrderMixin):
    def test_as_the_dot_may_stand(self):
        ends = {True: 0, False: 0}
        for placing, dot in each_dot():
            here = point(placing.places[dot])
            for place in some_places(placing, dot):
                made = reach_of(placing, dot, place)
                share = number(made)
                self.assertEqual(made, pair(share))
                self.assertTrue(0 < share <= 1)
                there = point(place)

                def at(part):
                    return tuple(pair(old + part * (new - old)) for old, new in zip(here, there))

                for part in (share / 2, share * 2 / 3, share * Fraction(10 ** 9 - 1, 10 ** 9)):
                    self.assertIs(may_stand(placing, dot, at(part)), True)
                if share < 1:
                    self.assertIs(may_stand(placing, dot, at(share)), False)
                ends[share < 1] += 1
        self.assertGreater(min(ends.values()), 200)

    def test_told_ones(self):
        for place, wanted in (((2, 0), (1, 2)), ((1, 2), (1, 1)), ((-2, 2), (1, 2)), ((2, 2), (1, 1)), ((0, 2), (1, 1)), ((2, 1), (1, 1)),
                              ((2, -2), (1, 4)), ((10, 10), (1, 8)), ((2, (999999, 10 ** 6)), (10 ** 6, 1000001))):
            self.assertEqual(reach_of(place=place, dot=3, placing=HELD), wanted)

    def test_a_way_of_no_length(self):
        for placing, dot in each_dot():
            self.assertEqual(reach_of(placing, dot, placing.places[dot]), (1, 1))

    def test_what_is_passed_stays(self):
        place = [[2, 2], [4, 2]]
        for call in (may_stand, dragged, reach_of):
            call(HELD, 3, place)
        self.assertEqual((place, HELD.places[3]), ([[2, 2], [4, 2]], ((2, 1), (2, 1))))

    def test_parameters(self):
        for name, wanted in (
            ("kernel_of", ["placing", "dot"]), ("may_stand", ["placing", "dot", "place"]), ("dragged", ["placing", "dot", "place"]),
            ("reach_of", ["placing", "dot", "place"]),
        ):
            self.assertEqual(list(inspect.signature(getattr(drags, name)).parameters), wanted)
            self.assertEqual(getattr(drags, name).__module__, "mapflow.drags")


if __name__ == "__main__":
    unittest.main()
