"""Weights, springs, rests and pulls."""

import inspect
import itertools
import random
import unittest
from fractions import Fraction

from mapflow import weights as weights_file
from mapflow.builds import fan_map, mirrored_map, renamed, split_at
from mapflow.drawings import Placing, Sound, judged_placing
from mapflow.errors import BadMap, BadNumber, BadPlace, BadPlacing, BadWeights, Misfit, TooMany
from mapflow.maps import Map
from mapflow.weights import Weights, even_weights, is_rest, pull_of, rest_of, springs
from tests.samples import (
    NO_DOTS, NO_FRACTIONS, NOTHINGS, OrderMixin, ears, number, pair, parabola, point, some_drawing, some_map, some_maps,
    some_placing, some_weights,
)
from tests.test_builds import NO_MAPS
from tests.test_drawings import NO_PLACES, NO_PLACINGS, STAR

TRI = fan_map(3)
TWO = split_at(TRI, (0, 1, 3))
CORNER = [(0, 0), (3, 0), [0, 3]]
EVEN = even_weights(TRI)
NO_WEIGHTS = (*NOTHINGS, TRI, EVEN.rows, [EVEN], Weights)
NO_ROWS = [value for value in NOTHINGS if value not in ("",)] + ["", "1", [1], [None], [(1, 2), 3], [{1: 2}], [{1, 2}], ["11"]]
for wrong in (*NO_FRACTIONS, 0, -1, (0, 1), (0, 7), (-1, 2), [-3, 4], (-10 ** 30, 1)):
    NO_ROWS.extend([[[wrong, 1, 1]], [(1, 1, wrong)], ([1, wrong, 1],), [[wrong]], [[1, 1, 1], [wrong, 1, 1]]])


def pulls(placing, weights):
    """For each inner dot the mean of its round, less its place, by Python's Fraction."""
    found = {}
    for dot, row in zip(weights.chart.inner, weights.rows):
        total = [Fraction(0), Fraction(0)]
        for other, weight in zip(weights.chart.rounds[dot], row):
            for k in (0, 1):
                total[k] += number(weight) * point(placing.places[other])[k]
        found[dot] = tuple(total[k] - point(placing.places[dot])[k] for k in (0, 1))
    return found


class MadeTest(unittest.TestCase, OrderMixin):
    def test_weights(self):
        for rows in ([[(2, 4), (1, 3), (1, 6)]], (([1, 2], [3, 9], (2, 12)),), [((1, 2), (1, 3), [1, 6])]):
            made = Weights(TRI, rows)
            self.assertEqual(repr(made.rows), "(((1, 2), (1, 3), (1, 6)),)")
            self.assertEqual(made.chart, TRI)
            self.assertEqual(Weights(rows=rows, chart=TRI), made)
            self.assertEqual(made, springs(TRI, [[3, 2, 1]]))
        self.assertEqual(Weights(TRI, [[(1, 10 ** 30), (1, 2), (10 ** 30 // 2 - 1, 10 ** 30)]]).rows[0][0], (1, 10 ** 30))

    def test_what_is_passed_is_copied(self):
        rows = [[[1, 2], (1, 3), (1, 6)]]
        made = Weights(TRI, rows)
        rows[0][0][0] = 7
        rows[0].append(3)
        rows.append([])
        self.assertEqual(made.rows, (((1, 2), (1, 3), (1, 6)),))

    def test_without_inner_dots(self):
        for chart in (ears(3), ears(6), Map([(0, 2, 1)])):
            for rows in ([], ()):
                self.assertEqual(Weights(chart, rows), even_weights(chart))
                self.assertEqual(springs(chart, rows).rows, ())
            for rows in ([[]], [[1]], [[1, 1, 1]]):
                self.assertRaisesWith(Misfit("rows"), Weights, chart, rows)
                self.assertRaisesWith(Misfit("rows"), springs, chart, rows)

    def test_errors(self):
        wrong = {"chart": [(value, BadMap("chart")) for value in NO_MAPS],
                 "rows": [(value, BadWeights("rows")) for value in NO_ROWS]}
        many = [[], (), [[]], [[1]], [[(1, 2), (1, 2)]], [[(1, 4)] * 4], [[(1, 3)] * 3] * 2, [[(1, 3)] * 3, []], [[], [(1, 3)] * 3]]
        sums = [[[1, 1, 1]], [[(1, 3), (1, 3), (1, 6)]], [[(1, 2), (1, 2), (1, 2)]], [[(1, 3), (1, 3), (333333, 10 ** 6)]]]
        late = [({"rows": rows}, Misfit("rows")) for rows in many]
        self.check_order(Weights, {"chart": TRI, "rows": [[(1, 3)] * 3]}, wrong,
                         late + [({"rows": rows}, Misfit("rows")) for rows in sums])
        self.check_order(springs, {"chart": TRI, "rows": [[1, 1, 1]]}, wrong, late)

    def test_rows_in_the_order_of_dots_and_rounds(self):
        for seed, chart in enumerate(some_maps()):
            chance = random.Random(seed)
            rows = [[chance.randint(1, 99) for _ in chart.rounds[dot]] for dot in chart.inner]
            wanted = tuple(tuple(pair(Fraction(weight, sum(row))) for weight in row) for row in rows)
            self.assertEqual(repr(springs(chart, rows).rows), repr(wanted))
            self.assertEqual(springs(rows=tuple(rows), chart=chart), Weights(chart, wanted))
            if any(len(row) != 3 for row in rows):
                self.assertRaisesWith(Misfit("rows"), springs, chart, [row[:3] for row in rows])
                self.assertRaisesWith(Misfit("rows"), springs, chart, [row + [1] for row in rows])
                if [len(row) for row in rows] != [len(row) for row in rows[::-1]]:
                    self.assertRaisesWith(Misfit("rows"), springs, chart, rows[::-1])

    def test_even_weights(self):
        for chart in some_maps():
            made = even_weights(chart=chart)
            self.assertEqual(made.chart, chart)
            self.assertEqual(made.rows, tuple(tuple((1, len(chart.rounds[dot])) for _ in chart.rounds[dot])
                                              for dot in chart.inner))
        self.check_order(even_weights, {"chart": TRI}, {"chart": [(value, BadMap("chart")) for value in NO_MAPS]})

    def test_equal(self):
        for value in (*NO_WEIGHTS, springs(TRI, [[1, 1, 2]]), even_weights(fan_map(4)), even_weights(mirrored_map(TRI)),
                      Weights(renamed(TRI, [0, 1, 3, 2]), EVEN.rows)):
            self.assertIs(EVEN == value, False)
            self.assertIs(EVEN != value, True)
        self.assertIs(EVEN == springs(Map(list(TRI.lands)), [[5, 5, 5]]), True)
        self.assertIs(EVEN != springs(Map(list(TRI.lands)), [[5, 5, 5]]), False)
        for name in ("__init__", "__eq__"):
            self.assertIn(name, vars(Weights))


class RestTest(unittest.TestCase, OrderMixin):
    def check_rest(self, weights, frame):
        made = rest_of(weights, frame)
        chart = weights.chart
        self.assertIs(type(made), Placing)
        self.assertEqual(made.chart, chart)
        for dot, place in zip(chart.frame, frame):
            self.assertEqual(repr(made.places[dot]), repr(tuple(pair(part) for part in point(place))))
        for pull in pulls(made, weights).values():
            self.assertEqual(pull, (0, 0))
        self.assertEqual(judged_placing(made), Sound())
        return made

    def test_rests(self):
        for seed, chart in enumerate(some_maps()):
            corners = len(chart.frame)
            frames = [parabola(corners), [((3 * x, 7), [y - 2 * x, 5]) for x, y in parabola(corners, 3, -7)],
                      parabola(corners)[1:] + parabola(corners)[:1]]
            for frame in frames:
                self.check_rest(some_weights(seed, chart), frame)
                self.check_rest(even_weights(chart), tuple(frame))
        self.assertEqual(rest_of(frame=CORNER, weights=EVEN).places[3], ((1, 1), (1, 1)))

    def test_great_fractions(self):
        chance = random.Random(8)
        for seed in range(4):
            chart = some_map(seed, 5, 5)
            rows = [[(chance.randint(1, 999999), chance.randint(1, 999999)) for _ in chart.rounds[dot]] for dot in chart.inner]
            frame = [((x * 99991 + 7, 999983), (y * 99971 - 3, 999979)) for x, y in parabola(5)]
            self.check_rest(springs(chart, rows), frame)

    def test_frames_that_are_not_from_0_on(self):
        chart = renamed(TWO, [4, 0, 2, 1, 3])
        self.assertEqual((chart.frame, chart.inner), ((0, 2, 4), (1, 3)))
        self.check_rest(even_weights(chart), CORNER)
        made = rest_of(even_weights(Map([(0, 2, 1)])), CORNER)
        self.assertEqual(made.places, (((0, 1), (0, 1)), ((0, 1), (3, 1)), ((3, 1), (0, 1))))

    def test_twenty_inner_dots(self):
        for corners in (3, 6):
            chart = some_map(corners, corners, 20)
            self.check_rest(even_weights(chart), parabola(corners))
            self.check_rest(even_weights(chart), [((x, 999983), (y, 999979)) for x, y in parabola(corners)])
            self.check_rest(some_weights(1, chart), parabola(corners))

    def test_more_inner_dots(self):
        for many in (21, 22, 50):
            weights = even_weights(some_map(many, 4, many))
            self.assertRaisesWith(TooMany("inner", 20), rest_of, weights, parabola(4))
            for frame in (parabola(3), parabola(5), parabola(4)[::-1], [(0, 0)] * 4, []):
                self.assertRaisesWith(Misfit("frame"), rest_of, weights, frame)
            for frame in (None, [(0, 0), 1], parabola(4) + [(1, 0.5)]):
                self.assertRaisesWith(BadPlace("frame"), rest_of, weights, frame)

    def test_all_rotations_turn_the_same_way(self):
        square = even_weights(fan_map(4))
        for frame in itertools.permutations([(0, 0), (4, 0), (5, 6), (0, 4)]):
            turns = [(0, 0), (4, 0), (5, 6), (0, 4)]
            at = turns.index(frame[0])
            if turns[at:] + turns[:at] == list(frame):
                self.check_rest(square, frame)
            else:
                self.assertRaisesWith(Misfit("frame"), rest_of, square, frame)

    def test_errors(self):
        frames = [value for value in NOTHINGS if value not in ("",)]
        frames.extend([CORNER + [place] for place in NO_PLACES] + [[place, (3, 0), (0, 3)] for place in NO_PLACES])
        frames.extend(["", CORNER[0] + (0,)])
        late = [({"frame": frame}, Misfit("frame")) for frame in (
            [], (), CORNER[:2], CORNER + [(0, 1)], [(0, 0), (0, 3), (3, 0)], [(0, 0), (1, 1), (2, 2)], [(0, 0), (0, 0), (1, 1)],
            [(0, 0)] * 3,
        )]
        self.check_order(rest_of, {"weights": EVEN, "frame": CORNER}, {
            "weights": [(value, BadWeights("weights")) for value in NO_WEIGHTS],
            "frame": [(value, BadPlace("frame")) for value in frames],
        }, late)
        four = even_weights(fan_map(4))
        for frame in ([(0, 0), (2, 0), (4, 0), (0, 4)], [(0, 0), (4, 0), (1, 1), (0, 4)], [(0, 0), (4, 4), (4, 0), (0, 4)]):
            self.assertRaisesWith(Misfit("frame"), rest_of, four, frame)
        self.assertRaisesWith(Misfit("frame"), rest_of, even_weights(fan_map(5)), STAR)


class PullTest(unittest.TestCase, OrderMixin):
    def test_pulls(self):
        found = {True: 0, False: 0}
        for seed, chart in enumerate(some_maps()):
            weights = some_weights(seed, chart)
            for placing in (some_drawing(seed, chart), some_drawing(seed + 1, chart), some_placing(seed, chart)):
                wanted = pulls(placing, weights)
                for dot in chart.inner:
                    self.assertEqual(repr(pull_of(placing, weights, dot)), repr(tuple(pair(part) for part in wanted[dot])))
                right = all(pull == (0, 0) for pull in wanted.values())
                found[right] += 1
                self.assertIs(is_rest(placing, weights), right)
                for dot in (*chart.frame, chart.dots, 59):
                    self.assertRaisesWith(Misfit("dot"), pull_of, placing, weights, dot)
        self.assertGreater(min(found.values()), 10)
        centre = rest_of(EVEN, CORNER)
        self.assertEqual(pull_of(dot=3, weights=springs(TRI, [[3, 2, 1]]), placing=centre), ((0, 1), (-1, 2)))
        self.assertIs(is_rest(weights=EVEN, placing=centre), True)

    def test_a_rest_that_is_no_drawing(self):
        flat = Placing(TRI, [(0, 0), (1, 1), (2, 2), (1, 1)])
        self.assertIs(is_rest(flat, EVEN), True)
        self.assertEqual(pull_of(flat, EVEN, 3), ((0, 1), (0, 1)))

    def test_errors(self):
        centre = rest_of(EVEN, CORNER)
        wrong = {"placing": [(value, BadPlacing("placing")) for value in NO_PLACINGS],
                 "weights": [(value, BadWeights("weights")) for value in NO_WEIGHTS]}
        others = [even_weights(TWO), even_weights(mirrored_map(TRI)), even_weights(renamed(TRI, [0, 1, 3, 2])), even_weights(ears(3))]
        late = [({"weights": weights}, Misfit("weights")) for weights in others]
        self.check_order(is_rest, {"placing": centre, "weights": EVEN}, wrong, late)
        late.extend([({"weights": weights, "dot": 0}, Misfit("weights")) for weights in others])
        late.extend([({"dot": dot}, Misfit("dot")) for dot in (0, 1, 2, 4, 59)])
        wrong["dot"] = [(value, BadNumber("dot")) for value in NO_DOTS]
        self.check_order(pull_of, {"placing": centre, "weights": EVEN, "dot": 3}, wrong, late)

    def test_parameters(self):
        for name, wanted in (
            ("Weights", ["chart", "rows"]), ("springs", ["chart", "rows"]), ("even_weights", ["chart"]),
            ("rest_of", ["weights", "frame"]), ("pull_of", ["placing", "weights", "dot"]), ("is_rest", ["placing", "weights"]),
        ):
            self.assertEqual(list(inspect.signature(getattr(weights_file, name)).parameters), wanted)
            self.assertEqual(getattr(weights_file, name).__module__, "mapflow.weights")


if __name__ == "__main__":
    unittest.main()
