"""Placings: what they keep, areas, whether they are drawings, ties that meet, dots inside, placings spread."""

import cmath
import inspect
import itertools
import math
import random
import unittest
from fractions import Fraction

from mapflow import drawings
from mapflow.builds import fan_map, mirrored_map, split_at
from mapflow.drawings import (
    Bent, Fallen, Placing, Sound, Wound, area_of, crossing_of, is_inside, judged_placing, spread,
)
from mapflow.errors import BadLand, BadMap, BadNumber, BadPlace, BadPlacing, Misfit
from mapflow.maps import Map, ties_of
from mapflow.papers import Denial, Paper
from tests.samples import (
    NO_DOTS, NO_FRACTIONS, NOTHINGS, OrderMixin, area, ears, number, pair, parabola, point, some_drawing, some_map,
    some_maps, some_placing,
)
from tests.test_builds import NO_LANDS, NO_MAPS

SQUARE = fan_map(4)
SIDES = [(0, 0), (4, 0), (4, 4), (0, 4)]
LEAN = Placing(SQUARE, SIDES + [(1, 2)])
STAR = [(0, 10), (-6, -8), (9, 3), (-9, 3), (6, -8)]
NO_PLACINGS = (*NOTHINGS, SQUARE, LEAN.places, str(LEAN), [LEAN], Placing)
NO_PLACES = (None, True, 0, 7, "", "12", b"12", 1.5, (), [1], (1, 2, 3), {0: 1, 1: 2}, {1, 2}, object()) + tuple(
    place for wrong in NO_FRACTIONS for place in ((wrong, 1), [1, wrong]))


def star(corners, step):
    """The corners of a star, told as it is drawn: one turns left at each, step times round."""
    found = []
    for k in range(corners):
        turned = cmath.rect(1000, 2 * math.pi * step * k / corners)
        found.append((round(turned.real), round(turned.imag)))
    return found


def common_points(one, two, three, four):
    """The points that two straight lines have in common: none, one, or both ends of a line."""
    ends = []
    for start, end, left, right in ((one, two, three, four), (three, four, one, two)):
        for spot in (left, right):
            if area(start, end, spot) == 0 and all(min(start[k], end[k]) <= spot[k] <= max(start[k], end[k]) for k in (0, 1)):
                ends.append(spot)
    if ends:
        return sorted(set(ends))
    (a, b), (c, d) = (two[0] - one[0], two[1] - one[1]), (four[0] - three[0], four[1] - three[1])
    if a * d == b * c:
        return []
    left, upward = three[0] - one[0], three[1] - one[1]
    along, across = (left * d - upward * c) / (a * d - b * c), (left * b - upward * a) / (a * d - b * c)
    if 0 <= along <= 1 and 0 <= across <= 1:
        return [(one[0] + along * a, one[1] + along * b)]
    return []


def meet(places, one, other):
    """Whether two ties meet, as the document tells it."""
    common = common_points(*[point(places[dot]) for dot in one + other])
    allowed = [point(places[dot]) for dot in one if dot in other]
    return any(spot not in allowed for spot in common)


def crossing(placing):
    for one, other in itertools.combinations(sorted(ties_of(placing.chart)), 2):
        if meet(placing.places, one, other):
            return (one, other)
    return None


def bent_dots(placing):
    frame = placing.chart.frame
    found = []
    for k, dot in enumerate(frame):
        corner = [point(placing.places[other]) for other in (frame[k - 1], dot, frame[(k + 1) % len(frame)])]
        if area(*corner) <= 0:
            found.append(dot)
    return found


def laps(placing):
    """How often one turns round, by angles."""
    spots = [complex(*[float(part) for part in point(placing.places[dot])]) for dot in placing.chart.frame]
    steps = [spots[(k + 1) % len(spots)] - spots[k] for k in range(len(spots))]
    return round(sum(cmath.phase(steps[(k + 1) % len(steps)] / steps[k]) for k in range(len(steps))) / (2 * math.pi))


def fallen_lands(placing):
    return [land for land in placing.chart.lands if area(*[point(placing.places[dot]) for dot in land]) <= 0]


def moved(placing, dot, place):
    places = list(placing.places)
    places[dot] = place
    return Placing(placing.chart, places)


def many_placings():
    """Drawings, and placings with dots moved onto others, onto ties, outside, and by chance."""
    found = []
    for seed, chart in enumerate(some_maps()):
        drawing = some_drawing(seed, chart)
        found.append(drawing)
        found.extend([some_placing(seed + 100 * k, chart) for k in range(3)])
        for dot in range(chart.dots):
            for other in (chart.rounds[dot][0], (dot + 1) % chart.dots):
                found.append(moved(drawing, dot, drawing.places[other]))
            one, other = [point(drawing.places[end]) for end in chart.lands[dot % len(chart.lands)][:2]]
            found.append(moved(drawing, dot, [pair((one[k] + other[k]) / 2) for k in (0, 1)]))
            found.append(moved(drawing, dot, (-5, (1, 2))))
    for corners, step in ((5, 2), (7, 2), (7, 3), (8, 3), (11, 4)):
        frame = star(corners, step)
        found.append(Placing(ears(corners), frame))
        found.append(Placing(fan_map(corners), frame + [(0, 0)]))
        found.append(Placing(fan_map(corners), frame[::-1] + [(0, 0)]))
    return found


class MadeTest(unittest.TestCase, OrderMixin):
    def test_places(self):
        places = [0, (6, 4), [-3, 9], (0, 5), (10 ** 40, 10 ** 39)]
        for across, upward in itertools.product(places, places):
            for form in (tuple, list):
                made = Placing(SQUARE, [*SIDES, form((across, upward))])
                self.assertEqual(repr(made.places[4]), repr((pair(number(across)), pair(number(upward)))))
                self.assertIs(type(made.places), tuple)
        self.assertEqual(Placing(places=tuple(SIDES + [(1, 2)]), chart=SQUARE), LEAN)
        self.assertEqual(LEAN.chart, SQUARE)

    def test_what_is_passed_is_copied(self):
        places = [[0, [2, 4]], [1, 1], [0, 1]]
        made = Placing(Map([(0, 1, 2)]), places)
        places[0][1].append(5)
        places[1][0] = 9
        places.append(1)
        self.assertEqual(made.places, (((0, 1), (1, 2)), ((1, 1), (1, 1)), ((0, 1), (1, 1))))

    def test_errors(self):
        lists = [value for value in NOTHINGS if value not in ({}, "")]
        lists.extend([SIDES + [place] for place in NO_PLACES])
        lists.extend([(place,) for place in NO_PLACES])
        self.check_order(Placing, {"chart": SQUARE, "places": SIDES + [(1, 2)]}, {
            "chart": [(value, BadMap("chart")) for value in NO_MAPS],
            "places": [(value, BadPlace("places")) for value in [*lists, {}, ""]],
        }, [({"places": places}, Misfit("places")) for places in ([], (), SIDES, SIDES + SIDES, SIDES + [(1, 2)] * 2)])

    def test_equal(self):
        other = Placing(split_at(fan_map(3), (0, 1, 3)), LEAN.places)
        for value in (*NO_PLACINGS, other, moved(LEAN, 4, (1, 1)), Placing(mirrored_map(SQUARE), LEAN.places)):
            self.assertIs(LEAN == value, False)
            self.assertIs(LEAN != value, True)
        same = Placing(Map(SQUARE.lands), SIDES + [[(2, 2), [4, 2]]])
        self.assertIs(LEAN == same, True)
        self.assertIs(LEAN != same, False)

    def test_own_methods(self):
        for name in ("__init__", "__eq__", "__str__", "read"):
            self.assertIn(name, vars(Placing))


class AreaTest(unittest.TestCase, OrderMixin):
    def test_areas(self):
        signs = set()
        for placing in many_placings():
            for land in placing.chart.lands:
                wanted = area(*[point(placing.places[dot]) for dot in land])
                signs.add((wanted > 0) - (wanted < 0))
                for k in range(3):
                    self.assertEqual(repr(area_of(placing, land[k:] + land[:k])), repr(pair(wanted)))
        self.assertEqual(signs, {-1, 0, 1})
        self.assertEqual(area_of(land=[4, 0, 1], placing=LEAN), (8, 1))

    def test_errors(self):
        self.check_order(area_of, {"placing": LEAN, "land": (0, 1, 4)}, {
            "placing": [(value, BadPlacing("placing")) for value in NO_PLACINGS],
            "land": [(value, BadLand("land")) for value in NO_LANDS],
        })


class JudgedTest(unittest.TestCase, OrderMixin):
    def test_papers(self):
        for kind, word, name in ((Bent, "bent", "dot"), (Wound, "wound", "laps"), (Fallen, "fallen", "land")):
            made = kind([1, [2]])
            self.assertEqual((made.word, made.parts, getattr(made, name)), (word, ((1, (2,)),), (1, (2,))))
            self.assertEqual(kind(**{name: (1, (2,))}), made)
            self.assertEqual((kind.__bases__, bool(made)), ((Denial,), False))
        self.assertEqual((Sound().word, Sound().parts, bool(Sound()), Sound.__bases__), ("sound", (), True, (Paper,)))
        self.assertNotEqual(Bent(2), Wound(2))

    def test_judged(self):
        words = {}
        for placing in many_placings():
            paper = judged_placing(placing)
            words[paper.word] = words.get(paper.word, 0) + 1
            bent, fallen = bent_dots(placing), fallen_lands(placing)
            if bent:
                self.assertIs(type(paper), Bent)
                self.assertIn(paper.dot, bent)
            elif laps(placing) > 1:
                self.assertEqual(paper, Wound(laps(placing)))
            elif fallen:
                self.assertIs(type(paper), Fallen)
                self.assertIn(paper.land, fallen)
            else:
                self.assertEqual(paper, Sound())
            self.assertEqual(judged_placing(placing=Placing(placing.chart, list(placing.places))), paper)
        self.assertEqual(sorted(words), ["bent", "fallen", "sound", "wound"])
        self.assertGreater(min(words.values()), 4)

    def test_laps(self):
        for corners, step in ((5, 2), (7, 2), (7, 3), (9, 4), (11, 5), (12, 5), (8, 3)):
            for frame in (star(corners, step), [(y, -x) for x, y in star(corners, step)]):
                for begin in range(corners):
                    turned = frame[begin:] + frame[:begin]
                    self.assertEqual(judged_placing(Placing(fan_map(corners), turned + [(0, 0)])), Wound(step))
        self.assertEqual(judged_placing(Placing(fan_map(5), STAR + [(0, 0)])), Wound(2))
        for corners in range(3, 13):
            frame = star(corners, 1)
            self.assertEqual(judged_placing(Placing(fan_map(corners), frame + [(0, 0)])), Sound())
            self.assertIs(type(judged_placing(Placing(fan_map(corners), frame[::-1] + [(0, 0)]))), Bent)

    def test_ways_straight_up_down_and_level(self):
        for frame in ([(0, 0), (2, 0), (2, 2), (0, 2)], [(0, 0), (1, -1), (2, 0), (1, 1)], [(0, 0), (2, -1), (3, 0), (1, 2)]):
            for begin in range(4):
                turned = frame[begin:] + frame[:begin]
                self.assertEqual(judged_placing(Placing(fan_map(4), turned + [(1, (1, 2))])).word, "sound")

    def test_flat_corners(self):
        for frame, dot in (
            ([(0, 0), (2, 0), (4, 0), (0, 4)], 1), ([(0, 0), (4, 0), (4, 0), (0, 4)], 1), ([(0, 0), (4, 0), (2, 2), (0, 4)], 2),
            ([(0, 0), (4, 0), (0, 4), (0, 2)], 3), ([(0, 0), (4, 0), (2, 0), (0, 4)], 1), ([(2, 0), (4, 0), (0, 4), (0, 0)], 0),
        ):
            placing = Placing(SQUARE, frame + [(1, 1)])
            paper = judged_placing(placing)
            self.assertIs(type(paper), Bent)
            self.assertIn(dot, bent_dots(placing))
            self.assertIn(paper.dot, bent_dots(placing))
        self.assertEqual(judged_placing(Placing(SQUARE, [(1, 1)] * 5)).word, "bent")

    def test_errors(self):
        wrong = {"placing": [(value, BadPlacing("placing")) for value in NO_PLACINGS]}
        self.check_order(judged_placing, {"placing": LEAN}, wrong)
        self.check_order(crossing_of, {"placing": LEAN}, wrong)


class CrossingTest(unittest.TestCase):
    def test_as_the_document_tells(self):
        found = {True: 0, False: 0}
        for placing in many_placings():
            wanted = crossing(placing)
            self.assertEqual(repr(crossing_of(placing)), repr(wanted))
            found[wanted is None] += 1
            if judged_placing(placing) == Sound():
                self.assertIsNone(wanted)
        self.assertGreater(min(found.values()), 20)

    def test_crowded_places(self):
        for seed in range(150):
            for chart in (ears(4), fan_map(3), some_map(seed, 4, 2)):
                placing = some_placing(seed, chart, most=2)
                self.assertEqual(crossing_of(placing), crossing(placing))

    def test_touching_and_lying_on_one_another(self):
        chart = ears(4)
        # The ties are 0 1, 0 2, 0 3, 1 2, 2 3.
        for places, wanted in (
            ([(0, 0), (4, 0), (4, 4), (0, 4)], None),
            ([(0, 0), (4, 0), (4, 4), (2, 2)], ((0, 2), (0, 3))),
            ([(0, 0), (4, 0), (4, 4), (8, 0)], ((0, 1), (0, 3))),
            ([(0, 0), (4, 0), (8, 0), (12, 0)], ((0, 1), (0, 2))),
            ([(0, 0), (4, 0), (-4, 0), (0, 4)], ((0, 1), (1, 2))),
            ([(0, 0), (4, 0), (-4, 0), (4, 0)], ((0, 1), (0, 3))),
            ([(0, 0), (4, 0), (4, 4), (2, -2)], ((0, 1), (2, 3))),
            ([(0, 0), (4, 0), (2, 4), (2, 0)], ((0, 1), (0, 3))),
            ([(0, 0), (4, 0), (4, 4), (4, 2)], ((0, 3), (1, 2))),
            ([(0, 0), (4, 0), (4, 4), (4, 0)], ((0, 1), (0, 3))),
            ([(0, 0), (0, 0), (4, 4), (0, 4)], ((0, 2), (1, 2))),
            ([(0, 0)] * 4, ((0, 1), (2, 3))),
        ):
            self.assertEqual(crossing_of(Placing(chart, places)), wanted)
            self.assertEqual(crossing(Placing(chart, places)), wanted)

    def test_apart_on_one_line(self):
        chart = Map([(0, 1, 4), (1, 5, 4), (1, 2, 5), (2, 3, 5), (3, 4, 5), (3, 0, 4)])
        level = Placing(chart, [(0, 0), (3, -3), (6, 0), (3, 3), (2, 0), (4, 0)])
        for six in ((1, 0, 0, 0, 1, 0), (0, -1, 0, 1, 0, 0), (0, 1, 0, -1, 0, 0), (-1, 0, 0, 0, -1, 0), (1, 1, 0, 0, 1, 0)):
            self.assertEqual(judged_placing(spread(level, six)), Sound())
            self.assertIsNone(crossing_of(spread(level, six)))
            self.assertIsNone(crossing(spread(level, six)))

    def test_two_ties_without_a_common_dot_at_one_place(self):
        chart = Map([(0, 1, 2), (0, 2, 3), (0, 3, 4), (0, 4, 5)])
        placing = Placing(chart, [(0, 0), (4, 0), (4, 4), (0, 4), (-4, 0), (4, 0)])
        self.assertEqual(crossing_of(placing), crossing(placing))
        self.assertEqual(crossing_of(placing), ((0, 1), (0, 5)))


class InsideTest(unittest.TestCase, OrderMixin):
    def test_inside(self):
        found = {True: 0, False: 0}
        for chart in some_maps():
            frame = parabola(len(chart.frame))
            order = {dot: k for k, dot in enumerate(chart.frame)}
            for seed in range(5):
                chance = random.Random(seed)
                places = [frame[order[dot]] if dot in order else ((chance.randint(-2, 12), 2), chance.randint(-1, 9))
                          for dot in range(chart.dots)]
                placing = Placing(chart, places)
                rim = [point(placing.places[dot]) for dot in chart.frame]
                for dot in chart.inner:
                    wanted = all(area(rim[k - 1], rim[k], point(placing.places[dot])) > 0 for k in range(len(rim)))
                    found[wanted] += 1
                    self.assertIs(is_inside(placing, dot), wanted)
        self.assertGreater(min(found.values()), 10)
        small = [(0, 0), (1, 0), (2, 1), (1, 2), (0, 1)]
        self.assertIs(is_inside(Placing(fan_map(5), small + [(1, 1)]), 5), True)
        for place, wanted in (((1, 1), True), ((0, 1), False), ((4, 4), False), ((4, (7, 2)), False), (((7, 2), (7, 2)), True)):
            self.assertIs(is_inside(moved(LEAN, 4, place), dot=4), wanted)

    def test_errors(self):
        wrong = {"placing": [(value, BadPlacing("placing")) for value in NO_PLACINGS],
                 "dot": [(value, BadNumber("dot")) for value in NO_DOTS]}
        bent = moved(LEAN, 2, (1, 1))
        wound = Placing(fan_map(5), STAR + [(0, 0)])
        late = [({"placing": bent}, Misfit("placing")), ({"placing": wound}, Misfit("placing"))]
        late.extend([({"placing": bent, "dot": dot}, Misfit("placing")) for dot in (0, 4, 5, 59)])
        late.extend([({"dot": dot}, Misfit("dot")) for dot in (0, 3, 5, 59)])
        self.check_order(is_inside, {"placing": LEAN, "dot": 4}, wrong, late)


class SpreadTest(unittest.TestCase, OrderMixin):
    SIXES = (
        (1, 0, 0, 0, 1, 0), (0, -1, 0, 1, 0, (1, 2)), [2, 1, -3, 1, 1, 7], ((1, 2), (2, 4), [-6, 4], 0, [1, 9], (0, 3)),
        (10 ** 30, 1, -10 ** 40, 10 ** 20, 10 ** 30, (1, 10 ** 20)), ((1, 10 ** 20), 0, 0, 0, (1, 10 ** 30), 0),
        (-1, 0, 0, 0, -1, 0), (-3, -1, (1, 3), -1, -2, (5, 7)),
    )

    def test_spread(self):
        for k, placing in enumerate(many_placings()):
            six = self.SIXES[k % len(self.SIXES)]
            a, b, c, d, e, f = [number(value) for value in six]
            made = spread(placing, six)
            wanted = []
            for place in placing.places:
                x, y = point(place)
                wanted.append((pair(a * x + b * y + c), pair(d * x + e * y + f)))
            self.assertEqual(repr(made.places), repr(tuple(wanted)))
            self.assertEqual(made.chart, placing.chart)
            self.assertEqual(judged_placing(made).word, judged_placing(placing).word)
            self.assertEqual(crossing_of(made), crossing_of(placing))
        self.assertEqual(spread(six=[1, 0, 0, 0, 1, 0], placing=LEAN), LEAN)

    def test_errors(self):
        wrong = [*NOTHINGS, (), (1, 0, 0, 0, 1), (1, 0, 0, 0, 1, 0, 0), "100010", ((1, 0, 0, 0, 1, 0),)]
        for value in NO_FRACTIONS:
            wrong.extend([[1, 0, 0, 0, 1, value], (value, 0, 0, 0, 1, 0), (1, value, 0, 0, 1, 0)])
        late = [({"six": six}, Misfit("six")) for six in (
            (1, 0, 0, 0, -1, 0), (0, 0, 0, 0, 0, 0), (1, 1, 5, 1, 1, 5), (0, 1, 0, 1, 0, 0), ((1, 2), (1, 3), 0, (3, 2), 1, 0),
            (0, 0, 1, 0, 0, 1), (-1, 0, 0, 0, 1, 0),
        )]
        self.check_order(spread, {"placing": LEAN, "six": (1, 0, 0, 0, 1, 0)}, {
            "placing": [(value, BadPlacing("placing")) for value in NO_PLACINGS],
            "six": [(value, BadNumber("six")) for value in wrong],
        }, late)


class InterfaceTest(unittest.TestCase):
    def test_parameters(self):
        for name, wanted in (
            ("Placing", ["chart", "places"]), ("area_of", ["placing", "land"]), ("judged_placing", ["placing"]),
            ("crossing_of", ["placing"]), ("is_inside", ["placing", "dot"]), ("spread", ["placing", "six"]), ("Sound", []),
            ("Bent", ["dot"]), ("Wound", ["laps"]), ("Fallen", ["land"]),
        ):
            self.assertEqual(list(inspect.signature(getattr(drawings, name)).parameters), wanted)
            self.assertEqual(getattr(drawings, name).__module__, "mapflow.drawings")

    def test_a_fraction_of_its_own_is_not_returned(self):
        for part in area_of(LEAN, (0, 1, 4)):
            self.assertNotIsInstance(part, Fraction)


if __name__ == "__main__":
    unittest.main()
