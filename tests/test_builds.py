"""Maps made of other ones, and the papers on whether two are the same."""

import inspect
import itertools
import unittest

from mapflow import builds
from mapflow.builds import (
    Same, Unlike, exchanged, fan_map, judged_same, mirrored_map, renamed, shows_same, split_at,
)
from mapflow.errors import BadLand, BadMap, BadNumber, Misfit, TooMany
from mapflow.maps import Map, land_at, ties_of
from mapflow.papers import Denial, Paper
from tests.samples import NO_DOTS, NOTHINGS, OrderMixin, ears, some_map, some_maps

SQUARE = fan_map(4)
NO_MAPS = (*NOTHINGS, SQUARE.lands, str(SQUARE), [SQUARE])
NO_LANDS = (
    *NOTHINGS, (), (0,), (0, 1), (0, 1, 4, 0), (0, 1, 2), (1, 0, 4), [4, 1, 0], (0, 0, 4), (0, 1, 5), (0, 1, 59), (0, 1, 60),
    (False, True, 4), (0, True, 4), (0, 1, 4.0), ("0", "1", "4"), "014", "0 1 4", ((0, 1, 4),), ({}, 1, 4), (0, 1, None),
    {0: 1, 1: 4, 4: 0}, {0, 1, 4}, ([0], [1], [4]),
)


def turns(land):
    a, b, c = land
    return [(a, b, c), [b, c, a], (c, a, b)]


class FanTest(unittest.TestCase, OrderMixin):
    def test_fans(self):
        for corners in range(3, 13):
            chart = fan_map(corners)
            self.assertIs(type(chart), Map)
            self.assertEqual((chart.frame, chart.inner), (tuple(range(corners)), (corners,)))
            self.assertEqual(chart.rounds[corners], tuple(range(corners)))
            self.assertEqual(len(chart.lands), corners)
            self.assertEqual(fan_map(corners=corners), chart)

    def test_none(self):
        for value in (None, True, False, -3, 0, 1, 2, 13, 14, 10 ** 20, 3.0, "3", (3, 1), [3], {}):
            self.assertRaisesWith(BadNumber("corners"), fan_map, value)


class SplitTest(unittest.TestCase, OrderMixin):
    def test_splits(self):
        for chart in some_maps():
            for land in chart.lands:
                a, b, c = land
                wanted = {*chart.lands} - {land}
                for told in turns(land):
                    split = split_at(chart, told)
                    dot = chart.dots
                    self.assertEqual(split, Map([*wanted, (a, b, dot), (b, c, dot), (c, a, dot)]))
                    self.assertEqual((split.dots, split.frame), (dot + 1, chart.frame))
                    self.assertEqual(split.inner, chart.inner + (dot,))
        self.assertEqual(split_at(land=(2, 0, 1), chart=Map([(0, 1, 2)])), fan_map(3))

    def test_up_to_sixty_dots(self):
        chart = Map([(0, 1, 2)])
        for dots in range(3, 60):
            self.assertEqual(chart.dots, dots)
            chart = split_at(chart, chart.lands[dots * 7 % len(chart.lands)])
        self.assertEqual((chart.dots, len(chart.lands)), (60, 115))
        self.assertRaisesWith(TooMany("dots", 60), split_at, chart, chart.lands[0])
        self.assertRaisesWith(BadLand("land"), split_at, chart, (0, 0, 1))
        self.assertRaisesWith(TooMany("dots", 60), split_at, Map([(0, k, k + 1) for k in range(1, 59)]), (1, 2, 0))

    def test_errors(self):
        self.check_order(split_at, {"chart": SQUARE, "land": (0, 1, 4)}, {
            "chart": [(value, BadMap("chart")) for value in NO_MAPS],
            "land": [(value, BadLand("land")) for value in NO_LANDS],
        })


class ExchangedTest(unittest.TestCase, OrderMixin):
    def test_all_pairs(self):
        many = {True: 0, False: 0}
        for chart in some_maps():
            ties = ties_of(chart)
            for one, other in itertools.permutations(range(chart.dots), 2):
                left, right = land_at(chart, one, other), land_at(chart, other, one)
                fits = left is not None and right is not None
                if fits:
                    (above,), (below,) = set(left) - {one, other}, set(right) - {one, other}
                    fits = (min(above, below), max(above, below)) not in ties
                many[fits] += 1
                if not fits:
                    self.assertRaisesWith(Misfit("other"), exchanged, chart, one, other)
                    continue
                made = exchanged(chart, one, other)
                tie, new = (min(one, other), max(one, other)), (min(above, below), max(above, below))
                self.assertEqual(set(ties_of(made)), set(ties) - {tie} | {new})
                self.assertEqual((made.frame, made.inner, made.dots), (chart.frame, chart.inner, chart.dots))
                self.assertEqual(set(chart.lands) - set(made.lands), {left, right})
                self.assertEqual(exchanged(made, below, above), chart)
                self.assertEqual(exchanged(other=one, one=other, chart=chart), made)
        self.assertGreater(min(many.values()), 50)

    def test_each_kind_that_can_not(self):
        for one, other in ((0, 2), (0, 0), (4, 4), (0, 5), (5, 0), (59, 58), (0, 1), (1, 0), (3, 0)):
            self.assertRaisesWith(Misfit("other"), exchanged, SQUARE, one, other)
        for dot in range(3):
            self.assertRaisesWith(Misfit("other"), exchanged, fan_map(3), dot, 3)
            self.assertRaisesWith(Misfit("other"), exchanged, fan_map(3), 3, dot)
        self.assertEqual(exchanged(ears(4), 0, 2).lands, ((0, 1, 3), (1, 2, 3)))

    def test_errors(self):
        self.check_order(exchanged, {"chart": SQUARE, "one": 0, "other": 4}, {
            "chart": [(value, BadMap("chart")) for value in NO_MAPS],
            "one": [(value, BadNumber("one")) for value in NO_DOTS],
            "other": [(value, BadNumber("other")) for value in NO_DOTS],
        }, [({"other": 0}, Misfit("other")), ({"one": 59}, Misfit("other"))])


class RenamedTest(unittest.TestCase, OrderMixin):
    def test_names(self):
        for names in itertools.permutations(range(5)):
            made = renamed(SQUARE, names)
            self.assertEqual(made, Map([tuple(names[dot] for dot in land) for land in SQUARE.lands]))
            self.assertEqual(made.inner, (names[4],))
            back = [names.index(dot) for dot in range(5)]
            self.assertEqual(renamed(names=back, chart=made), SQUARE)
        for chart in some_maps():
            self.assertEqual(renamed(chart, list(range(chart.dots))), chart)

    def test_errors(self):
        wrong = [
            *NOTHINGS, (), [0, 1, 2, 3], (0, 1, 2, 3, 4, 5), (0, 1, 2, 3, 3), (0, 0, 2, 3, 4), (1, 2, 3, 4, 5), (0, 1, 2, 3, -1),
            (0, 1, 2, 3, 59), (0, 1, 2, 3, 60), (0, True, 2, 3, 4), (False, 1, 2, 3, 4), (0, 1.0, 2, 3, 4), "01234",
            ("0", "1", "2", "3", "4"), (0, 1, 2, 3, None), (0, 1, 2, 3, (4, 1)), ({}, 1, 2, 3, 4), {0, 1, 2, 3, 4},
            (0, 1, 2, 3, 4, 4), ((0, 1, 2, 3, 4),),
        ]
        self.check_order(renamed, {"chart": SQUARE, "names": [4, 3, 2, 1, 0]}, {
            "chart": [(value, BadMap("chart")) for value in NO_MAPS],
            "names": [(value, BadNumber("names")) for value in wrong],
        })


class MirroredTest(unittest.TestCase, OrderMixin):
    def test_mirrored(self):
        for chart in some_maps():
            made = mirrored_map(chart)
            self.assertEqual(set(made.lands), {(a, c, b) for a, b, c in chart.lands})
            self.assertEqual(made.frame, chart.frame[:1] + chart.frame[:0:-1])
            self.assertEqual((made.inner, ties_of(made)), (chart.inner, ties_of(chart)))
            self.assertNotEqual(made, chart)
            self.assertEqual(mirrored_map(chart=made), chart)

    def test_errors(self):
        self.check_order(mirrored_map, {"chart": SQUARE}, {"chart": [(value, BadMap("chart")) for value in NO_MAPS]})


class SameTest(unittest.TestCase, OrderMixin):
    def test_papers(self):
        self.assertEqual((Same().word, Same().parts, bool(Same())), ("same", (), True))
        made = Unlike([0, [1], 4])
        self.assertEqual((made.word, made.parts, made.land, bool(made)), ("unlike", ((0, (1,), 4),), (0, (1,), 4), False))
        self.assertEqual(Unlike(land=(0, 1, 4)), Unlike([0, 1, 4]))
        self.assertNotEqual(Unlike((0, 1, 4)), Unlike((1, 4, 0)))
        self.assertNotEqual(Same(), Paper("same"))
        self.assertNotEqual(Unlike(1), Denial("unlike", 1))
        self.assertEqual((Same.__bases__, Unlike.__bases__), ((Paper,), (Denial,)))
        for value in (None, True, {}, "x", 1.5):
            self.assertEqual(Unlike(value).land, value)

    def test_judged(self):
        charts = some_maps() + [mirrored_map(chart) for chart in some_maps()]
        for one in charts:
            for other in charts:
                paper = judged_same(one, other)
                self.assertEqual(paper == Same(), one.lands == other.lands)
                if paper != Same():
                    self.assertIs(type(paper), Unlike)
                    self.assertEqual((paper.land in one.lands) + (paper.land in other.lands), 1)
                self.assertIs(shows_same(one, other, paper), True)
                self.assertIs(bool(paper), one == other)
                self.assertEqual(judged_same(other=other, one=Map(list(one.lands))), paper)
        self.assertIs(type(judged_same(ears(4), Map([(0, 1, 2)]))), Unlike)
        self.assertIs(type(judged_same(Map([(0, 1, 2)]), ears(4))), Unlike)

    def test_shows(self):
        other = exchanged(SQUARE, 0, 4)
        for one, two in ((SQUARE, other), (other, SQUARE)):
            single = set(one.lands) ^ set(two.lands)
            for land in itertools.permutations(range(5), 3):
                right = any(land in [tuple(told) for told in turns(each)] for each in single)
                self.assertIs(shows_same(one, two, Unlike(land)), right)
                self.assertIs(shows_same(one, two, Unlike(list(land))), right)
                self.assertIs(shows_same(one, one, Unlike(land)), False)
            self.assertIs(shows_same(one, two, Same()), False)
            self.assertIs(shows_same(one, one, Same()), True)
            self.assertIs(shows_same(one=one, value=Same(), other=Map(list(one.lands))), True)

    def test_other_values(self):
        other = exchanged(SQUARE, 0, 4)
        values = [*NOTHINGS, (), [], (0, 1, 4), Same, Unlike, Paper("same"), Denial("same"), Denial("unlike", (0, 1, 4)),
                  Paper("unlike", (0, 1, 4)), SQUARE, ("same",), "unlike"]
        values.extend([Unlike(value) for value in NO_LANDS if value not in ((0, 1, 2), (0, 1, 60))])
        values.extend([Unlike(value) for value in ((False, True, 4), (0, True, 4), (0.0, 1, 4), Unlike((0, 1, 4)))])
        for value in values:
            self.assertIs(shows_same(SQUARE, other, value), False)
            self.assertIs(shows_same(other, SQUARE, value), False)
            self.assertIs(shows_same(SQUARE, SQUARE, value), False)

    def test_a_class_below_is_none_of_these(self):
        class Fake(Same):
            pass

        class False_(Unlike):
            pass

        self.assertIs(shows_same(SQUARE, SQUARE, Fake()), False)
        self.assertIs(shows_same(SQUARE, exchanged(SQUARE, 0, 4), False_((0, 1, 4))), False)

    def test_errors(self):
        wrong = {"one": [(value, BadMap("one")) for value in NO_MAPS],
                 "other": [(value, BadMap("other")) for value in NO_MAPS]}
        self.check_order(judged_same, {"one": SQUARE, "other": SQUARE}, wrong)
        for paper in (Same(), Unlike((0, 1, 4)), None, 5):
            self.check_order(shows_same, {"one": SQUARE, "other": SQUARE, "value": paper}, wrong)

    def test_parameters(self):
        for name, wanted in (
            ("fan_map", ["corners"]), ("split_at", ["chart", "land"]), ("exchanged", ["chart", "one", "other"]),
            ("renamed", ["chart", "names"]), ("mirrored_map", ["chart"]), ("judged_same", ["one", "other"]),
            ("shows_same", ["one", "other", "value"]), ("Same", []), ("Unlike", ["land"]),
        ):
            self.assertEqual(list(inspect.signature(getattr(builds, name)).parameters), wanted)
            self.assertEqual(getattr(builds, name).__module__, "mapflow.builds")


if __name__ == "__main__":
    unittest.main()
