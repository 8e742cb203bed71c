"""Flows, films, walks, and which drawings flow into one another."""

import inspect
import itertools
import unittest
from fractions import Fraction

from mapflow import flows
from mapflow.builds import Same, Unlike, exchanged, fan_map, mirrored_map, renamed, split_at
from mapflow.drawings import Placing, Sound, judged_placing, spread
from mapflow.errors import BadNumber, BadPlacing, Misfit, TooMany
from mapflow.flows import Flows, Otherwise, film_of, flow_at, judged_pair, shows_pair, walk_at
from mapflow.maps import Map
from mapflow.papers import Denial, Paper
from mapflow.tellback import weights_of
from tests.samples import (
    NO_DOTS, NO_FRACTIONS, NOTHINGS, OrderMixin, crowded_drawing, ears, even_drawing, number, pair, parabola, point,
    some_drawing, some_map, some_maps,
)
from tests.test_builds import NO_LANDS, turns
from tests.test_drawings import NO_PLACINGS, SIDES, SQUARE, moved
from tests.test_tellback import NO_DRAWINGS, NO_SHARES
from tests.test_weights import TRI

CORNER = [(0, 0), (3, 0), (0, 3)]
ONE, OTHER = Placing(TRI, [*CORNER, (1, 1)]), Placing(TRI, [*CORNER, (1, (1, 2))])
FAR = Placing(TRI, [(0, 0), (3, 0), (0, 4), (1, 1)])
YARD = split_at(SQUARE, (0, 1, 4))
CALM, LEFT = Placing(YARD, [*SIDES, (2, 2), (2, 1)]), Placing(YARD, [*SIDES, (1, 2), (1, 1)])
MIDST = Placing(SQUARE, SIDES + [(2, 2)])
# The same places, but of other maps.
OTHERS = [Placing(mirrored_map(TRI), [CORNER[0], CORNER[2], CORNER[1], (1, 1)]),
          Placing(renamed(TRI, [3, 0, 1, 2]), [*CORNER, (1, 1)][1:] + [(0, 0)]), MIDST, CALM, some_drawing(0, ears(3))]
WIDE = Placing(TRI, [(0, 0), (3, 0), (0, (7, 2)), (1, 1)])
CROWD = [crowded_drawing(seed) for seed in (0, 1)]


def is_between(placing, one, other, moment):
    """Whether each inner dot is at the mean of its round by the weights of the moment, the frame stands, no land falls."""
    share = number(moment)
    chart = one.chart
    if placing.chart != chart or any(placing.places[dot] != one.places[dot] for dot in chart.frame):
        return False
    for dot, first, last in zip(chart.inner, weights_of(one).rows, weights_of(other).rows):
        for k in (0, 1):
            total = Fraction(0)
            for near, weight, more in zip(chart.rounds[dot], first, last):
                total += ((1 - share) * number(weight) + share * number(more)) * point(placing.places[near])[k]
            if total != point(placing.places[dot])[k]:
                return False
    return judged_placing(placing) == Sound()


def some_pairs():
    found = [(ONE, OTHER), (CALM, LEFT)]
    for seed, chart in enumerate(some_maps()):
        found.append((some_drawing(seed, chart), some_drawing(seed + 1, chart)))
    return found


def misfits(more):
    """What fits in each argument, but not with the others, in the order in which it is told; more are other arguments."""
    found = [({"one": one, **beside, **more}, Misfit("one")) for one in NO_DRAWINGS[:3] for beside in
             ({}, {"other": FAR}, {"other": NO_DRAWINGS[0]}, {"other": CROWD[0]})]
    found.extend([({"other": other}, Misfit("other")) for other in [*NO_DRAWINGS, *OTHERS, FAR, WIDE, CROWD[0]]])
    shifted = spread(ONE, (1, 0, (1, 10 ** 9), 0, 1, 0))
    found.extend([({"other": shifted}, Misfit("other")), ({"one": shifted, **more}, Misfit("other"))])
    lower = spread(CROWD[1], (1, 0, 0, 0, 1, -1))
    found.append(({"one": CROWD[0], "other": lower}, Misfit("other")))
    found.append(({"one": CROWD[0], "other": CROWD[1], **more}, TooMany("inner", 20)))
    return found


class FlowTest(unittest.TestCase, OrderMixin):
    def test_moments(self):
        for one, other in some_pairs():
            self.assertEqual(flow_at(one, other, 0), one)
            self.assertEqual(flow_at(one, other, (5, 5)), other)
            for moment in ((1, 2), [2, 6], (999, 1000), (1, 10 ** 6), (0, 3), 1):
                made = flow_at(one, other, moment)
                self.assertIs(type(made), Placing)
                self.assertTrue(is_between(made, one, other, moment))
                self.assertEqual(flow_at(other, one, pair(1 - number(moment))), made)
        self.assertEqual(flow_at(moment=(1, 2), other=OTHER, one=ONE).places[3], ((1, 1), (3, 4)))
        self.assertEqual(flow_at(CALM, LEFT, (1, 2)).places[4:], (((333, 218), (2, 1)), ((165, 109), (1, 1))))

    def test_one_inner_dot_goes_straight(self):
        hexagon = [(2, 0), (4, 0), (5, 2), (4, 4), (2, 4), (1, 2)]
        one, other = [Placing(fan_map(6), hexagon + [place]) for place in ((2, 1), ((7, 2), 3))]
        for moment in (0, (1, 5), (1, 2), (9, 10), 1):
            share = number(moment)
            self.assertEqual(flow_at(one, other, moment).places[6], (pair(2 + share * Fraction(3, 2)), pair(1 + 2 * share)))

    def test_from_a_drawing_to_itself(self):
        for one, _ in some_pairs():
            for moment in (0, (1, 3), 1):
                self.assertEqual(flow_at(one, one, moment), one)

    def test_great_fractions(self):
        chart = some_map(4, 5, 5)
        near = [Placing(chart, [((int(number(x) * 999983), 999983), (int(number(y) * 999979), 999979)) for x, y in one.places])
                for one in (some_drawing(1, chart), some_drawing(2, chart))]
        self.assertTrue(is_between(flow_at(*near, (123457, 999983)), *near, (123457, 999983)))
        self.assertEqual(film_of(*near, 3)[-1], near[1])

    def test_flow_errors(self):
        self.check_order(flow_at, {"one": ONE, "other": OTHER, "moment": (1, 2)}, {
            "one": [(value, BadPlacing("one")) for value in NO_PLACINGS],
            "other": [(value, BadPlacing("other")) for value in NO_PLACINGS],
            "moment": [(value, BadNumber("moment")) for value in NO_SHARES],
        }, misfits({"moment": 0}))

    def test_twenty_inner_dots(self):
        one, other = [some_drawing(seed, some_map(9, 4, 20)) for seed in (0, 1)]
        self.assertEqual(flow_at(one, one, (1, 2)), one)
        self.assertEqual(flow_at(even_drawing(one.chart), other, 1), other)


class FilmTest(unittest.TestCase, OrderMixin):
    def test_films(self):
        for one, other in some_pairs():
            for many in (1, 2, 5):
                film = film_of(one, other, many)
                self.assertIs(type(film), tuple)
                self.assertEqual(len(film), many + 1)
                self.assertEqual((film[0], film[-1]), (one, other))
                for step, placing in enumerate(film):
                    self.assertEqual(placing, flow_at(one, other, (step, many)))
        film = film_of(many=40, other=LEFT, one=CALM)
        self.assertEqual(len(film), 41)
        for step, placing in enumerate(film):
            self.assertTrue(is_between(placing, CALM, LEFT, (step, 40)))
        self.assertEqual(film_of(LEFT, CALM, 40), film[::-1])

    def test_film_errors(self):
        wrong = [value for value in NOTHINGS if value != 7] + [0, 41, 42, -1, 10 ** 20, (1, 1), [2], (2, 1), 2.0, "2", True]
        self.check_order(film_of, {"one": ONE, "other": OTHER, "many": 2}, {
            "one": [(value, BadPlacing("one")) for value in NO_PLACINGS],
            "other": [(value, BadPlacing("other")) for value in NO_PLACINGS],
            "many": [(value, BadNumber("many")) for value in wrong],
        }, misfits({"many": 40}))


class WalkTest(unittest.TestCase, OrderMixin):
    def test_walks(self):
        for seed, chart in enumerate(some_maps()):
            for many in (2, 3, 5):
                drawings = [some_drawing(seed + k, chart) for k in range(many)]
                for k in range(many):
                    for moment in (k, (2 * k, 2), [3 * k, 3]):
                        self.assertEqual(walk_at(drawings, moment), drawings[k])
                for k in range(many - 1):
                    for share in (Fraction(1, 2), Fraction(2, 3), Fraction(1, 10 ** 6)):
                        made = walk_at(tuple(drawings), pair(k + share))
                        self.assertEqual(made, flow_at(drawings[k], drawings[k + 1], pair(share)))
                        self.assertTrue(is_between(made, drawings[k], drawings[k + 1], pair(share)))
        self.assertEqual(walk_at(moment=(3, 2), drawings=[ONE, OTHER, ONE]).places[3], ((1, 1), (3, 4)))
        self.assertEqual(walk_at([ONE, OTHER] * 6, 11), OTHER)
        self.assertEqual(walk_at([ONE, OTHER] * 6, (21, 2)), flow_at(ONE, OTHER, (1, 2)))

    def test_errors(self):
        drawings = [value for value in NO_PLACINGS if value not in ("",) and value != [ONE]] + [
            "", [], (), [ONE], (ONE,), [ONE] * 13, [ONE, None], (None, ONE), [ONE, OTHER, TRI], [ONE, [OTHER]], {0: ONE, 1: OTHER},
            [ONE, ONE.places], ONE, [FAR, ONE, 3], [None] * 20,
        ]
        wrong = {"drawings": [(value, BadPlacing("drawings")) for value in drawings]}
        moments = (*NO_FRACTIONS, -1, (-1, 2), [-1, 10 ** 9], 3, (5, 2), (2 * 10 ** 9 + 1, 10 ** 9), 10 ** 30)
        wrong["moment"] = [(value, BadNumber("moment")) for value in moments]
        late = []
        for wrong_one in (*NO_DRAWINGS, *OTHERS, FAR, WIDE, CROWD[0]):
            for at in range(3):
                some = [ONE, OTHER, ONE]
                some[at] = wrong_one
                late.append(({"drawings": some, "moment": 0}, Misfit("drawings")))
        late.append(({"drawings": [*CROWD, FAR]}, Misfit("drawings")))
        late.append(({"drawings": [*CROWD, CROWD[0]], "moment": 0}, TooMany("inner", 20)))
        self.check_order(walk_at, {"drawings": [ONE, OTHER, ONE], "moment": 2}, wrong, late)
        self.assertRaisesWith(BadNumber("moment"), walk_at, [ONE, OTHER], (3, 2))
        self.assertRaisesWith(BadNumber("moment"), walk_at, [ONE] * 12, 12)
        for moment in (2, (11, 10), -1, True):
            self.assertRaisesWith(BadNumber("moment"), walk_at, [ONE, FAR], moment)
            self.assertRaisesWith(BadNumber("moment"), walk_at, CROWD, moment)


class PairTest(unittest.TestCase, OrderMixin):
    def test_papers(self):
        self.assertEqual((Flows().word, Flows().parts, bool(Flows()), Flows.__bases__), ("flows", (), True, (Paper,)))
        made = Otherwise([2, [3]])
        self.assertEqual((made.word, made.parts, made.dot, bool(made)), ("otherwise", ((2, (3,)),), (2, (3,)), False))
        self.assertEqual((Otherwise(dot=(2, (3,))), Otherwise.__bases__), (made, (Denial,)))

    def test_judged(self):
        drawings = [ONE, OTHER, FAR, WIDE, CALM, LEFT, MIDST, *OTHERS, *CROWD]
        for one, other in itertools.product(drawings, drawings):
            paper = judged_pair(one, other)
            unlike = [dot for dot in one.chart.frame if one.chart == other.chart and one.places[dot] != other.places[dot]]
            if one.chart != other.chart:
                self.assertIs(type(paper), Unlike)
                self.assertEqual((paper.land in one.chart.lands) + (paper.land in other.chart.lands), 1)
            elif unlike:
                self.assertIs(type(paper), Otherwise)
                self.assertIn(paper.dot, unlike)
            else:
                self.assertEqual(paper, Flows())
            self.assertIs(shows_pair(one, other, paper), True)
            self.assertEqual(judged_pair(other=other, one=one), paper)

    def test_inner_dots_may_be_elsewhere(self):
        for one, other in some_pairs():
            self.assertEqual(judged_pair(one, other), Flows())

    def test_shows(self):
        for one, other in itertools.product((ONE, OTHER, FAR, MIDST, CALM, OTHERS[0]), repeat=2):
            alike = one.chart == other.chart
            single = set(one.chart.lands) ^ set(other.chart.lands)
            unlike = [dot for dot in one.chart.frame if alike and one.places[dot] != other.places[dot]]
            self.assertIs(shows_pair(one, other, Flows()), alike and not unlike)
            self.assertIs(shows_pair(one, other, Same()), False)
            for dot in range(-1, 7):
                self.assertIs(shows_pair(one, other, Otherwise(dot)), dot in unlike)
            for land in itertools.permutations(range(6), 3):
                right = any(land in [tuple(told) for told in turns(each)] for each in single)
                self.assertIs(shows_pair(one, other, Unlike(land)), right)
                self.assertIs(shows_pair(one, other, Unlike(list(land))), right)
        self.assertIs(shows_pair(value=Flows(), other=OTHER, one=ONE), True)

    def test_two_corners_elsewhere(self):
        shifted = spread(ONE, (1, 0, 1, 0, 1, 0))
        for dot in (0, 1, 2):
            self.assertIs(shows_pair(ONE, shifted, Otherwise(dot)), True)
        self.assertIs(shows_pair(ONE, shifted, Otherwise(3)), False)
        self.assertIs(shows_pair(ONE, shifted, Otherwise(True)), False)
        self.assertIs(shows_pair(ONE, shifted, Otherwise(False)), False)

    def test_other_values(self):
        values = [*NOTHINGS, (), [], Flows, Otherwise, ONE, Paper("flows"), Denial("otherwise", 2), Denial("unlike", (0, 1, 3)), 2,
                  ("flows",), Same()]
        values.extend([Otherwise(value) for value in (*NO_DOTS, (2, 1), [2], "2", 2.0, (2,), Otherwise(2))])
        values.extend([Unlike(value) for value in NO_LANDS if value not in ((0, 1, 2), (0, 1, 5))])
        for value in values:
            for one, other in ((ONE, OTHER), (ONE, FAR), (ONE, CALM), (FAR, spread(FAR, (2, 0, 0, 0, 2, 5)))):
                self.assertIs(shows_pair(one, other, value), False)

        class Fake(Flows):
            pass

        self.assertIs(shows_pair(ONE, OTHER, Fake()), False)

    def test_more_inner_dots_than_a_flow_can_have(self):
        self.assertEqual(judged_pair(*CROWD), Flows())
        self.assertIs(shows_pair(*CROWD, Flows()), True)

    def test_errors(self):
        wrong = {"one": [(value, BadPlacing("one")) for value in NO_PLACINGS],
                 "other": [(value, BadPlacing("other")) for value in NO_PLACINGS]}
        late = [({"one": one, **more}, Misfit("one")) for one in NO_DRAWINGS for more in
                ({}, {"other": FAR}, {"other": NO_DRAWINGS[0]}, {"other": CALM})]
        late.extend([({"other": other}, Misfit("other")) for other in NO_DRAWINGS])
        self.check_order(judged_pair, {"one": ONE, "other": OTHER}, wrong, late)
        for paper in (Flows(), Otherwise(2), Unlike((0, 1, 3)), None, 5):
            self.check_order(shows_pair, {"one": ONE, "other": OTHER, "value": paper}, wrong, late)

    def test_one_land(self):
        one, other = [Placing(Map([(0, 1, 2)]), frame) for frame in (CORNER, CORNER[1:] + CORNER[:1])]
        self.assertEqual(judged_pair(one, one), Flows())
        self.assertEqual(flow_at(one, one, (1, 2)), one)
        self.assertIs(type(judged_pair(one, other)), Otherwise)
        self.assertEqual(exchanged(ears(4), 0, 2), Map([(0, 1, 3), (1, 2, 3)]))
        self.assertEqual(moved(MIDST, 4, (2, 2)), MIDST)

    def test_parameters(self):
        for name, wanted in (
            ("flow_at", ["one", "other", "moment"]), ("film_of", ["one", "other", "many"]), ("walk_at", ["drawings", "moment"]),
            ("judged_pair", ["one", "other"]), ("shows_pair", ["one", "other", "value"]), ("Flows", []), ("Otherwise", ["dot"]),
        ):
            self.assertEqual(list(inspect.signature(getattr(flows, name)).parameters), wanted)
            self.assertEqual(getattr(flows, name).__module__, "mapflow.flows")
        self.assertEqual(parabola(3), [(0, 0), (1, 1), (2, 4)])


if __name__ == "__main__":
    unittest.main()
