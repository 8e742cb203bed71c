"""Rings of drawings, rings that shrink, films of films, the middle of drawings."""

import inspect
import itertools
import unittest
from fractions import Fraction

from mapflow import rings
from mapflow.builds import fan_map, renamed
from mapflow.drawings import Placing, Sound, judged_placing, spread
from mapflow.errors import BadNumber, BadPlacing, Misfit, TooMany
from mapflow.flows import flow_at
from mapflow.maps import Map
from mapflow.rings import films_of, middle_of, ring_at, shrunk_at
from mapflow.tellback import weights_of
from tests.samples import NO_FRACTIONS, NOTHINGS, OrderMixin, ears, number, pair, point, some_drawing, some_map, some_maps
from tests.test_drawings import NO_PLACINGS
from tests.test_flows import CALM, CORNER, CROWD, FAR, MIDST, ONE, OTHER, OTHERS, WIDE
from tests.test_tellback import NO_DRAWINGS, NO_SHARES

THIRD = Placing(fan_map(3), [*CORNER, ((3, 2), (3, 4))])
SHARES = (0, (1, 5), [1, 2], (999, 1000), 1)
NO_LISTS_OF_PLACINGS = [value for value in NO_PLACINGS if value != [ONE] and not isinstance(value, list)] + [
    [], (), [ONE] * 9, (ONE,) * 12, [ONE, None], (None, ONE), [ONE, OTHER, fan_map(3)], [ONE, [OTHER]], {0: ONE}, ONE, [ONE.places],
    [FAR, ONE, 3], [None] * 20, [str(ONE)],
]
# Drawings of one map in one frame, with too many inner dots; and placings that do not fit beside them.
CROWDS = ([CROWD[0]], CROWD, [*CROWD, CROWD[0]])
FLAT_CROWD = Placing(CROWD[0].chart, [*CROWD[0].places[:-1], CROWD[0].places[0]])
WIDE_CROWD = spread(CROWD[1], (2, 0, 0, 0, 1, 0))
# A drawing in the same frame, but of another map: the last two dots, both inner ones, have each other's number.
*EARLIER, ONE_BUT_LAST, LAST = range(CROWD[0].chart.dots)
SWAPPED = [*EARLIER, LAST, ONE_BUT_LAST]
SWAPPED_CROWD = Placing(renamed(CROWD[0].chart, SWAPPED), [CROWD[0].places[dot] for dot in SWAPPED])
CROWDS_APART = ([*CROWD, FAR], [CROWD[0], SWAPPED_CROWD], [CROWD[0], WIDE_CROWD], [FLAT_CROWD], [*CROWD, FLAT_CROWD])
NO_CROWD_CENTRES = (*NO_DRAWINGS[:2], ONE, MIDST, SWAPPED_CROWD, FLAT_CROWD, WIDE_CROWD)
NO_COUNTS = [value for value in NOTHINGS if value != 7] + [0, 13, -1, 10 ** 20, (1, 1), [2], (2, 1), 2.0, "2", True]


def mixed_rows(first, last, share):
    """(1 - share) times the numbers of some rows and share times those of others."""
    return [[(1 - share) * one + share * other for one, other in zip(row, more)] for row, more in zip(first, last)]


def told_rows(placing):
    return [[number(weight) for weight in row] for row in weights_of(placing).rows]


def ring_rows(drawings, moment):
    """The weights of a ring at a moment, as the document tells them."""
    at = number(moment)
    begin = at.numerator // at.denominator
    if begin == len(drawings):
        return told_rows(drawings[0])
    return mixed_rows(told_rows(drawings[begin]), told_rows(drawings[(begin + 1) % len(drawings)]), at - begin)


def mean_rows(drawings):
    tables = [told_rows(drawing) for drawing in drawings]
    return [[sum(numbers) / len(drawings) for numbers in zip(*rows)] for rows in zip(*tables)]


def is_rest_of(placing, rows, frame_of):
    """Whether it is an upright placing in the frame of another one, each inner dot at the mean of its round."""
    chart = frame_of.chart
    if type(placing) is not Placing or placing.chart != chart or judged_placing(placing) != Sound():
        return False
    if any(placing.places[dot] != frame_of.places[dot] for dot in chart.frame):
        return False
    for dot, row in zip(chart.inner, rows):
        for k in (0, 1):
            mean = sum((weight * point(placing.places[near])[k] for near, weight in zip(chart.rounds[dot], row)), Fraction(0))
            if mean != point(placing.places[dot])[k]:
                return False
    return True


def some_rings():
    """Lists of one to eight drawings, some of them several times."""
    found = [[ONE], [ONE, OTHER], [ONE, OTHER, THIRD], [OTHER, OTHER, ONE], [CALM] * 3]
    for seed, chart in enumerate(some_maps()):
        many = 1 + seed % 8
        drawings = [some_drawing(seed + k % 3 if seed % 2 else seed + k, chart) for k in range(many)]
        found.append(drawings)
    return found


def moments(many):
    return [0, *[(k, 3) for k in range(1, 3 * many)], (1, 10 ** 6), [7 * many - 1, 7], many, (2 * many, 2)]


class RingTest(unittest.TestCase, OrderMixin):
    def test_moments(self):
        for drawings in some_rings():
            for moment in moments(len(drawings)):
                made = ring_at(drawings, moment)
                self.assertTrue(is_rest_of(made, ring_rows(drawings, moment), drawings[0]))
            for k, drawing in enumerate(drawings):
                self.assertEqual(ring_at(tuple(drawings), k), drawing)
                self.assertEqual(ring_at(drawings, (3 * k, 3)), drawing)
            self.assertEqual(ring_at(moment=len(drawings), drawings=drawings), drawings[0])

    def test_between_two_it_is_the_flow(self):
        for drawings in some_rings():
            for k, drawing in enumerate(drawings):
                following = drawings[(k + 1) % len(drawings)]
                for share in ((1, 4), (2, 3)):
                    self.assertEqual(ring_at(drawings, pair(k + number(share))), flow_at(drawing, following, share))

    def test_one_drawing_stands(self):
        for drawings in some_rings():
            for moment in (0, (1, 3), [99, 100], 1):
                self.assertEqual(ring_at(drawings[:1], moment), drawings[0])

    def test_eight(self):
        drawings = [ONE, OTHER, THIRD, ONE, ONE, THIRD, OTHER, THIRD]
        for moment in (7, (15, 2), [31, 4], 8):
            self.assertTrue(is_rest_of(ring_at(drawings, moment), ring_rows(drawings, moment), ONE))
        self.assertEqual(ring_at(drawings, (15, 2)), flow_at(THIRD, ONE, (1, 2)))

    def test_errors(self):
        beyond = [(value, BadNumber("moment")) for value in (*NO_FRACTIONS, -1, (-1, 9), 3, (5, 2), (2 * 10 ** 9 + 1, 10 ** 9), 10 ** 20)]
        self.check_order(ring_at, {"drawings": [ONE, OTHER], "moment": (3, 2)}, {
            "drawings": [(value, BadPlacing("drawings")) for value in NO_LISTS_OF_PLACINGS], "moment": beyond,
        }, misfit_lists({"moment": 0}) + crowds({"moment": 0}))
        self.assertRaisesWith(BadNumber("moment"), ring_at, [ONE], (11, 10))
        self.assertRaisesWith(BadNumber("moment"), ring_at, [ONE] * 8, (81, 10))
        self.assertRaisesWith(BadNumber("moment"), ring_at, [CROWD[0], FAR], 3)


def misfit_lists(more):
    """Lists of placings that do not fit together, each with its error; more are other arguments."""
    late = []
    for wrong in (*NO_DRAWINGS, *OTHERS, FAR, WIDE, CROWD[0]):
        late.extend([({"drawings": some, **more}, Misfit("drawings")) for some in ([ONE, wrong], [wrong, ONE], [ONE, ONE, wrong, ONE])])
    late.extend([({"drawings": [wrong], **more}, Misfit("drawings")) for wrong in NO_DRAWINGS])
    late.extend([({"drawings": some, **more}, Misfit("drawings")) for some in CROWDS_APART])
    return late


def crowds(more):
    """Lists of drawings with too many inner dots, each with the error; more are other arguments, which fit."""
    return [({"drawings": some, **more}, TooMany("inner", 20)) for some in CROWDS]


def misfit_centres(more):
    """Centres that do not fit, each with the error; more are other arguments."""
    found = [({"centre": centre, **more}, Misfit("centre")) for centre in (*NO_DRAWINGS, *OTHERS, FAR, WIDE, CROWD[0])]
    shifted = spread(ONE, (1, 0, (1, 10 ** 9), 0, 1, 0))
    found.append(({"centre": shifted, **more}, Misfit("centre")))
    found.append(({"drawings": [shifted], **more}, Misfit("centre")))
    # What is wrong with the drawings is told ahead of what is wrong with the centre.
    for wrong in (NO_DRAWINGS[0], FAR, CROWD[0]):
        found.append(({"drawings": [ONE, wrong], "centre": wrong, **more}, Misfit("drawings")))
        found.append(({"drawings": [ONE, wrong], "centre": NO_DRAWINGS[1], **more}, Misfit("drawings")))
    # What does not fit is told ahead of too many inner dots: the drawings, then the centre.
    for centre in NO_CROWD_CENTRES:
        found.extend([({"drawings": some, "centre": centre, **more}, Misfit("drawings")) for some in CROWDS_APART])
        found.extend([({"drawings": some, "centre": centre, **more}, Misfit("centre")) for some in CROWDS])
    for centre in CROWD:
        found.extend(crowds({"centre": centre, **more}))
    return found


class ShrunkTest(unittest.TestCase, OrderMixin):
    def test_shares_and_moments(self):
        for seed, drawings in enumerate(some_rings()):
            frame = [drawings[0].places[dot] for dot in drawings[0].chart.frame]
            centre = some_drawing(seed + 50, drawings[0].chart, frame)
            for share, moment in itertools.product(SHARES, moments(len(drawings))[::3]):
                made = shrunk_at(drawings, centre, share, moment)
                rows = mixed_rows(ring_rows(drawings, moment), told_rows(centre), number(share))
                self.assertTrue(is_rest_of(made, rows, centre))
            for moment in moments(len(drawings))[::2]:
                self.assertEqual(shrunk_at(drawings, centre, 0, moment), ring_at(drawings, moment))
                self.assertEqual(shrunk_at(tuple(drawings), centre, [4, 4], moment), centre)

    def test_told_ones(self):
        self.assertEqual(shrunk_at([ONE, OTHER], THIRD, (1, 2), 0).places[3], ((5, 4), (7, 8)))
        self.assertEqual(shrunk_at(moment=(7, 5), share=1, centre=THIRD, drawings=[ONE, OTHER]), THIRD)
        self.assertEqual(shrunk_at([ONE, OTHER], ONE, (1, 3), 2), ONE)

    def test_errors(self):
        good = {"drawings": [ONE, OTHER], "centre": THIRD, "share": (1, 3), "moment": 2}
        self.check_order(shrunk_at, good, {
            "drawings": [(value, BadPlacing("drawings")) for value in NO_LISTS_OF_PLACINGS],
            "centre": [(value, BadPlacing("centre")) for value in (*NO_PLACINGS, [ONE, OTHER])],
            "share": [(value, BadNumber("share")) for value in NO_SHARES],
            "moment": [(value, BadNumber("moment")) for value in (*NO_FRACTIONS, -1, (-1, 9), 3, (5, 2))],
        }, misfit_lists({"centre": THIRD, "moment": 0}) + misfit_centres({"moment": 0}))


    def test_numbers_are_told_ahead_of_what_does_not_fit(self):
        for share in (2, (-1, 9), [10 ** 9 + 1, 10 ** 9]):
            self.assertRaisesWith(BadNumber("share"), shrunk_at, [ONE, FAR], THIRD, share, 9)
            self.assertRaisesWith(BadNumber("share"), shrunk_at, CROWD, FAR, share, 0)
        self.assertRaisesWith(BadNumber("moment"), shrunk_at, [ONE, FAR], FAR, 1, (5, 2))
        self.assertRaisesWith(BadNumber("many"), films_of, [ONE, FAR], FAR, 13, 0)
        self.assertRaisesWith(BadNumber("few"), films_of, CROWD, FAR, 12, 13)


class FilmsTest(unittest.TestCase, OrderMixin):
    def test_number_and_order(self):
        for seed, drawings in enumerate(some_rings()):
            frame = [drawings[0].places[dot] for dot in drawings[0].chart.frame]
            centre = some_drawing(seed + 50, drawings[0].chart, frame)
            for many, few in ((1, 1), (2, 3), (3, 2)) if len(drawings) < 5 else ((2, 2),):
                films = films_of(drawings, centre, many, few)
                self.assertIs(type(films), tuple)
                self.assertEqual([len(film) for film in films], [few * len(drawings) + 1] * (many + 1))
                for share, film in enumerate(films):
                    self.assertIs(type(film), tuple)
                    self.assertEqual(film[0], film[-1])
                    for step, placing in enumerate(film):
                        self.assertEqual(placing, shrunk_at(drawings, centre, (share, many), (step, few)))
                self.assertEqual(films[0][::few], (*drawings, drawings[0]))
                self.assertEqual(films[-1], (centre,) * (few * len(drawings) + 1))

    def test_told_ones(self):
        films = films_of(few=2, many=1, centre=THIRD, drawings=(ONE, OTHER))
        self.assertEqual([[placing.places[3][1] for placing in film] for film in films],
                         [[(1, 1), (3, 4), (1, 2), (3, 4), (1, 1)], [(3, 4)] * 5])
        films = films_of([OTHER, THIRD], ONE, 12, 12)
        self.assertEqual([len(film) for film in films], [25] * 13)
        for share, film in enumerate(films):
            for step in (0, 5, 13, 24):
                rows = mixed_rows(ring_rows([OTHER, THIRD], (step, 12)), told_rows(ONE), Fraction(share, 12))
                self.assertTrue(is_rest_of(film[step], rows, ONE))

    def test_a_thousand_inner_dots(self):
        chart = some_map(9, 5, 8)
        drawings = [some_drawing(seed, chart) for seed in range(3)]
        films = films_of(drawings[:2], drawings[2], 4, 12)
        self.assertEqual(len(films) * len(films[0]) * len(chart.inner), 1000)
        self.assertEqual(films[2][7], shrunk_at(drawings[:2], drawings[2], (1, 2), (7, 12)))

    def test_errors(self):
        good = {"drawings": [ONE, OTHER], "centre": THIRD, "many": 1, "few": 2}
        self.check_order(films_of, good, {
            "drawings": [(value, BadPlacing("drawings")) for value in NO_LISTS_OF_PLACINGS],
            "centre": [(value, BadPlacing("centre")) for value in (*NO_PLACINGS, [ONE, OTHER])],
            "many": [(value, BadNumber("many")) for value in NO_COUNTS],
            "few": [(value, BadNumber("few")) for value in NO_COUNTS],
        }, misfit_lists({"centre": THIRD}) + misfit_centres({}))


class MiddleTest(unittest.TestCase, OrderMixin):
    def test_middles(self):
        for drawings in some_rings():
            made = middle_of(drawings)
            self.assertTrue(is_rest_of(made, mean_rows(drawings), drawings[0]))
            for order in itertools.islice(itertools.permutations(drawings), 0, 24, 5):
                self.assertEqual(middle_of(drawings=order), made)
            self.assertEqual(middle_of(drawings[:1]), drawings[0])
            self.assertEqual(middle_of(drawings[:1] * 8), drawings[0])

    def test_told_ones(self):
        self.assertEqual(middle_of([ONE, ONE, OTHER, OTHER]).places[3], ((1, 1), (3, 4)))
        self.assertEqual(middle_of([ONE, OTHER]), flow_at(ONE, OTHER, (1, 2)))

    def test_without_inner_dots(self):
        for chart in (Map([(0, 1, 2)]), ears(5)):
            one = some_drawing(0, chart)
            self.assertEqual((middle_of([one, one]), ring_at([one], (1, 2)), shrunk_at([one], one, (1, 2), 1)), (one, one, one))

    def test_errors(self):
        self.check_order(middle_of, {"drawings": [ONE, OTHER]}, {
            "drawings": [(value, BadPlacing("drawings")) for value in NO_LISTS_OF_PLACINGS],
        }, misfit_lists({}) + crowds({}))

    def test_what_is_passed_stays(self):
        drawings = [ONE, OTHER]
        for call, more in ((ring_at, ([1, 2],)), (shrunk_at, (THIRD, [1, 2], [3, 2])), (films_of, (THIRD, 1, 1)), (middle_of, ())):
            call(drawings, *more)
        self.assertEqual(drawings, [ONE, OTHER])

    def test_parameters(self):
        for name, wanted in (
            ("ring_at", ["drawings", "moment"]), ("shrunk_at", ["drawings", "centre", "share", "moment"]),
            ("films_of", ["drawings", "centre", "many", "few"]), ("middle_of", ["drawings"]),
        ):
            self.assertEqual(list(inspect.signature(getattr(rings, name)).parameters), wanted)
            self.assertEqual(getattr(rings, name).__module__, "mapflow.rings")


if __name__ == "__main__":
    unittest.main()
