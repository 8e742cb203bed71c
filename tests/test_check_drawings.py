"""Which papers on placings are right."""

import inspect
import unittest

from mapflow import check_drawings
from mapflow.builds import Same, Unlike, fan_map
from mapflow.check_drawings import shows_placing
from mapflow.drawings import Bent, Fallen, Placing, Sound, Wound, judged_placing
from mapflow.errors import BadPlacing
from mapflow.papers import Denial, Paper
from tests.samples import NO_DOTS, NOTHINGS, OrderMixin
from tests.test_builds import NO_LANDS
from tests.test_drawings import (
    LEAN, NO_PLACINGS, SIDES, SQUARE, STAR, bent_dots, fallen_lands, laps, many_placings, moved,
)

BAD = moved(LEAN, 4, (5, 2))
BENT = moved(LEAN, 2, (1, 1))
WOUND = Placing(fan_map(5), STAR + [(0, 0)])
TURNED = Placing(SQUARE, SIDES[::-1] + [(1, 2)])


class ShowsTest(unittest.TestCase, OrderMixin):
    def test_as_the_document_tells(self):
        found = {}
        for placing in many_placings():
            bent, fallen = bent_dots(placing), fallen_lands(placing)
            convex = not bent and laps(placing) == 1
            for dot in range(-1, placing.chart.dots + 1):
                self.check(found, placing, Bent(dot), dot in bent)
            for many in range(-1, 7):
                self.check(found, placing, Wound(many), not bent and many > 1 and many == laps(placing))
            for a, b, c in placing.chart.lands:
                for land in ((a, b, c), [b, c, a], (c, a, b)):
                    self.check(found, placing, Fallen(land), convex and (a, b, c) in fallen)
                self.check(found, placing, Fallen((a, c, b)), False)
            self.check(found, placing, Sound(), convex and not fallen)
            self.check(found, placing, judged_placing(placing), True)
        self.assertEqual(len(found), 8)
        self.assertGreater(min(found.values()), 4)

    def check(self, found, placing, value, wanted):
        self.assertIs(shows_placing(placing, value), wanted)
        found[(value.word, wanted)] = found.get((value.word, wanted), 0) + 1

    def test_told_ones(self):
        for placing, right, wrong in (
            (LEAN, [Sound()], [Bent(0), Bent(4), Wound(1), Wound(2), Fallen((0, 1, 4))]),
            (BAD, [Fallen((1, 2, 4)), Fallen([4, 1, 2])], [Sound(), Fallen((0, 1, 4)), Fallen((1, 4, 2)), Bent(1), Wound(1)]),
            (BENT, [Bent(2)], [Sound(), Bent(0), Bent(4), Fallen((1, 2, 4)), Wound(1), Wound(2)]),
            (WOUND, [Wound(2)], [Sound(), Bent(0), Fallen((0, 1, 5)), Wound(1), Wound(3)]),
            (TURNED, [Bent(0), Bent(1), Bent(2), Bent(3)], [Bent(4), Wound(1), Wound(-1), Fallen((0, 1, 4)), Sound()]),
        ):
            for value in right:
                self.assertIs(shows_placing(placing, value), True)
            for value in wrong:
                self.assertIs(shows_placing(placing, value), False)
        self.assertIs(shows_placing(value=Sound(), placing=LEAN), True)

    def test_other_values(self):
        values = [*NOTHINGS, (), [], Sound, Bent, LEAN, SQUARE, ("sound",), "sound", Same(), Unlike((1, 2, 4)), Paper("sound"),
                  Denial("sound"), Denial("bent", 2), Denial("wound", 2), Denial("fallen", (1, 2, 4)), (2,), (1, 2, 4)]
        values.extend([Bent(dot) for dot in NO_DOTS if dot != 2])
        values.extend([Wound(dot) for dot in (*NO_DOTS, (2, 1), [2, 1], "2", 2.0, 1, 0, -2)])
        values.extend([Fallen(land) for land in (*NO_LANDS, (True, 2, 4), (1.0, 2, 4), "124")])
        values.extend([Bent((2, 1)), Bent([2]), Bent("2"), Bent(2.0), Bent(True), Bent(Bent(2))])
        for value in values:
            for placing in (BAD, BENT, WOUND, TURNED):
                if not (placing is TURNED and type(value) is Bent and value == Bent(0)):
                    self.assertIs(shows_placing(placing, value), False, vars(value) if isinstance(value, Paper) else value)
            if type(value) is not Sound:
                self.assertIs(shows_placing(LEAN, value), False)

    def test_truths_are_no_numbers(self):
        ones = moved(LEAN, 1, (1, 1))
        self.assertIs(shows_placing(ones, Bent(1)), True)
        self.assertIs(shows_placing(ones, Bent(True)), False)
        self.assertIs(shows_placing(TURNED, Bent(0)), True)
        self.assertIs(shows_placing(TURNED, Bent(False)), False)
        self.assertIs(shows_placing(BAD, Fallen((True, 2, 4))), False)

    def test_a_class_below_is_none_of_these(self):
        class Fake(Sound):
            pass

        class Other(Bent):
            pass

        self.assertIs(shows_placing(LEAN, Fake()), False)
        self.assertIs(shows_placing(BENT, Other(2)), False)

    def test_errors(self):
        for paper in (Sound(), Bent(0), Wound(2), Fallen((0, 1, 4)), None, 5):
            self.check_order(shows_placing, {"placing": LEAN, "value": paper}, {
                "placing": [(value, BadPlacing("placing")) for value in NO_PLACINGS],
            })

    def test_parameters(self):
        self.assertEqual(list(inspect.signature(shows_placing).parameters), ["placing", "value"])
        self.assertIs(check_drawings.shows_placing, shows_placing)
        self.assertEqual(shows_placing.__module__, "mapflow.check_drawings")


if __name__ == "__main__":
    unittest.main()
