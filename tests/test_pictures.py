"""Pictures by signs: letters, chequers carried along, films."""

import inspect
import math
import unittest
from fractions import Fraction

from mapflow import pictures
from mapflow.builds import fan_map, split_at
from mapflow.drawings import Placing, spread
from mapflow.errors import BadNumber, BadPlacing, Misfit
from mapflow.flows import film_of
from mapflow.maps import Map
from mapflow.pictures import film_pictures, painted_of, picture_of
from mapflow.spots import carried, spot_of
from tests.samples import (
    NO_FRACTIONS, NOTHINGS, OrderMixin, area, ears, even_drawing, number, pair, point, some_drawing, some_map, some_maps,
)
from tests.test_drawings import NO_PLACINGS, SIDES
from tests.test_flows import CALM, CROWD, LEFT, ONE, OTHER, misfits
from tests.test_rings import NO_COUNTS
from tests.test_tellback import AMID, ASIDE, NO_DRAWINGS

SIZES = ((1, 1), (1, 5), (7, 1), (4, 4), (3, 2), (9, 8))
NO_SIZES = [value for value in NOTHINGS if value != 7] + [0, -1, 10 ** 20, (1, 1), [2], 2.0, "2", True]
NO_WIDE, NO_TALL = [*NO_SIZES, 81, 100], [*NO_SIZES, 61, 80]


def samples(placing, wide, tall):
    """The rows of samples from the top, as points."""
    frame = [point(placing.places[dot]) for dot in placing.chart.frame]
    left, right = min(x for x, _ in frame), max(x for x, _ in frame)
    bottom, top = min(y for _, y in frame), max(y for _, y in frame)
    return [[(left + (right - left) * Fraction(2 * i + 1, 2 * wide), top - (top - bottom) * Fraction(2 * j + 1, 2 * tall))
             for i in range(wide)] for j in range(tall)]


def sign_told(placing, spot):
    """The sign of a sample, as the document tells it."""
    found = []
    for k, land in enumerate(sorted(placing.chart.lands)):
        corners = [point(placing.places[dot]) for dot in land]
        sides = [area(corners[at - 1], corners[at], spot) for at in range(3)]
        if min(sides) >= 0:
            found.append("*" if 0 in sides else "abcdefghijklmnopqrstuvwxyz"[k % 26])
    return found[0] if found else "."


def picture_told(placing, wide, tall):
    return " ".join("".join(sign_told(placing, spot) for spot in row) for row in samples(placing, wide, tall))


def chequer_told(one, other, side, wide, tall):
    rows = []
    for row in samples(other, wide, tall):
        signs = ""
        for x, y in row:
            place = (pair(x), pair(y))
            if spot_of(other, place) is None:
                signs += "."
                continue
            steps = [math.floor(part / number(side)) for part in point(carried(other, one, place))]
            signs += "#" if sum(steps) % 2 == 0 else "+"
        rows.append(signs)
    return " ".join(rows)


def some_drawings():
    found = [AMID, ASIDE, CALM, LEFT, ONE, spread(AMID, (1, 1, -7, -1, 2, (1, 3))), some_drawing(1, some_map(4, 8, 12))]
    for seed, chart in enumerate(some_maps()):
        found.append(some_drawing(seed, chart) if seed % 2 else even_drawing(chart))
    return found


def some_pairs():
    found = [(AMID, ASIDE), (CALM, LEFT), (ONE, OTHER), (AMID, AMID)]
    for move in ((1, 0, -2, 0, 1, (-5, 2)), (1, (1, 2), (-1, 3), (1, 5), 1, -9)):
        found.append((spread(CALM, move), spread(LEFT, move)))
    for seed, chart in enumerate(some_maps()[::2]):
        found.append((some_drawing(seed, chart), some_drawing(seed + 1, chart)))
    return found


class PictureTest(unittest.TestCase, OrderMixin):
    def test_signs(self):
        seen = {}
        for placing in some_drawings():
            for wide, tall in SIZES:
                made = picture_of(placing, wide, tall)
                self.assertEqual(made, picture_told(placing, wide, tall))
                self.assertEqual([len(row) for row in made.split(" ")], [wide] * tall)
                for sign in made:
                    seen[sign] = seen.get(sign, 0) + 1
        self.assertTrue(all(seen[sign] > 20 for sign in "abcdef.*"))

    def test_behind_the_twenty_sixth_land(self):
        # A fan of 12 corners with split lands: some lands are called a, b and so on again.
        chart = fan_map(12)
        for land in chart.lands:
            chart = split_at(chart, land)
        placing = even_drawing(chart)
        self.assertEqual(len(chart.lands), 36)
        made = picture_of(placing, 60, 40)
        self.assertEqual(made, picture_told(placing, 60, 40))
        far = [sign for sign, spot in zip(made.replace(" ", ""), [spot for row in samples(placing, 60, 40) for spot in row])
               if sign not in ".*" and chart.lands.index(spot_of(placing, tuple(pair(part) for part in spot))[0]) >= 26]
        self.assertGreater(len(far), 20)
        self.assertTrue(set(far) <= set("abcdefghij"))

    def test_stars(self):
        self.assertEqual(picture_of(AMID, 4, 4), "*dd* b**c b**c *aa*")
        self.assertEqual(picture_of(AMID, 1, 1), "*")
        self.assertEqual(picture_of(AMID, 2, 1), "bc")
        self.assertEqual(picture_of(tall=2, wide=3, placing=AMID), "bdc bac")
        # On the frame, too: the middle of the box lies on a side of it.
        corner = Placing(Map([(0, 1, 2)]), [(0, 0), (4, 0), (0, 4)])
        self.assertEqual(picture_of(corner, 1, 1), "*")
        self.assertEqual(picture_of(corner, 2, 2), "*. a*")
        self.assertEqual(picture_of(corner, 3, 3), "*.. a*. aa*")
        self.assertEqual(picture_of(corner, 3, 1), "a*.")

    def test_greatest_sizes(self):
        made = picture_of(CALM, 80, 60)
        self.assertEqual([len(row) for row in made.split(" ")], [80] * 60)
        self.assertEqual(made, picture_told(CALM, 80, 60))

    def test_inner_dots_do_not_widen_the_box(self):
        for placing in some_drawings():
            far = [spot for row in samples(placing, 3, 3) for spot in row]
            xs = [point(placing.places[dot])[0] for dot in placing.chart.frame]
            self.assertTrue(all(min(xs) < x < max(xs) for x, _ in far))

    def test_errors(self):
        late = [({"placing": placing, "wide": wide}, Misfit("placing")) for placing in NO_DRAWINGS for wide in (1, 80)]
        self.check_order(picture_of, {"placing": AMID, "wide": 3, "tall": 2}, {
            "placing": [(value, BadPlacing("placing")) for value in NO_PLACINGS],
            "wide": [(value, BadNumber("wide")) for value in NO_WIDE],
            "tall": [(value, BadNumber("tall")) for value in NO_TALL],
        }, late)


class PaintedTest(unittest.TestCase, OrderMixin):
    def test_signs(self):
        seen = {}
        for one, other in some_pairs():
            for side in (1, (1, 2), (1, 7), 3, [10, 3], 10 ** 9, (1, 10 ** 9)):
                for wide, tall in ((5, 4), (1, 1), (2, 7)):
                    made = painted_of(one, other, side, wide, tall)
                    self.assertEqual(made, chequer_told(one, other, side, wide, tall))
                    for sign in made:
                        seen[sign] = seen.get(sign, 0) + 1
        self.assertTrue(all(seen[sign] > 100 for sign in "#+."))

    def test_told_ones(self):
        self.assertEqual(painted_of(AMID, AMID, 2, 4, 4), "++## ++## ##++ ##++")
        self.assertEqual(painted_of(tall=1, wide=2, side=3, other=ASIDE, one=AMID), "#+")
        self.assertEqual(painted_of(AMID, AMID, 4, 4, 4), "#### #### #### ####")
        # Below 0 the integers go on: -1 is odd.
        shifted = spread(AMID, (1, 0, -2, 0, 1, -2))
        self.assertEqual(painted_of(shifted, shifted, 2, 4, 4), "++## ++## ##++ ##++")
        lower = spread(AMID, (1, 0, -4, 0, 1, 0))
        self.assertEqual(painted_of(lower, lower, 4, 4, 4), "++++ ++++ ++++ ++++")
        corner = Placing(Map([(0, 1, 2)]), [(0, 0), (4, 0), (0, 4)])
        self.assertEqual(painted_of(corner, corner, 2, 2, 2), "+. #+")

    def test_painted_on_itself(self):
        for one, _ in some_pairs():
            for side in ((1, 3), 2):
                rows = []
                for row in samples(one, 6, 5):
                    rows.append("".join(
                        "." if sign_told(one, (x, y)) == "." else
                        "+" if (math.floor(x / number(side)) + math.floor(y / number(side))) % 2 else "#" for x, y in row))
                self.assertEqual(painted_of(one, one, side, 6, 5), " ".join(rows))

    def test_more_inner_dots_than_a_flow_can_have(self):
        self.assertEqual(painted_of(*CROWD, (1, 2), 3, 3), chequer_told(*CROWD, (1, 2), 3, 3))

    def test_errors(self):
        late = [(changes, error) for changes, error in misfits({"wide": 80, "tall": 60}) if type(error) is Misfit]
        self.check_order(painted_of, {"one": ONE, "other": OTHER, "side": (1, 2), "wide": 3, "tall": 2}, {
            "one": [(value, BadPlacing("one")) for value in NO_PLACINGS],
            "other": [(value, BadPlacing("other")) for value in NO_PLACINGS],
            "side": [(value, BadNumber("side")) for value in (*NO_FRACTIONS, 0, (0, 7), -1, [-1, 10 ** 9])],
            "wide": [(value, BadNumber("wide")) for value in NO_WIDE],
            "tall": [(value, BadNumber("tall")) for value in NO_TALL],
        }, late)


class FilmTest(unittest.TestCase, OrderMixin):
    def test_films(self):
        for one, other in some_pairs():
            for many, wide, tall in ((1, 4, 3), (3, 1, 5), (2, 5, 1)):
                made = film_pictures(one, other, many, wide, tall)
                self.assertIs(type(made), tuple)
                self.assertEqual(made, tuple(picture_told(placing, wide, tall) for placing in film_of(one, other, many)))
                self.assertEqual((made[0], made[-1]), (picture_of(one, wide, tall), picture_of(other, wide, tall)))

    def test_told_ones(self):
        self.assertEqual(film_pictures(AMID, ASIDE, 1, 3, 2), ("bdc bac", "ddc aac"))
        self.assertEqual(len(film_pictures(tall=1, wide=1, many=40, other=ASIDE, one=AMID)), 41)
        one = some_drawing(0, ears(5))
        self.assertEqual(film_pictures(one, one, 1, 3, 3), (picture_of(one, 3, 3),) * 2)
        self.assertEqual(Placing(fan_map(4), SIDES + [(2, 2)]), AMID)

    def test_errors(self):
        self.check_order(film_pictures, {"one": ONE, "other": OTHER, "many": 2, "wide": 3, "tall": 2}, {
            "one": [(value, BadPlacing("one")) for value in NO_PLACINGS],
            "other": [(value, BadPlacing("other")) for value in NO_PLACINGS],
            "many": [(value, BadNumber("many")) for value in (*[wrong for wrong in NO_COUNTS if wrong != 13], 41)],
            "wide": [(value, BadNumber("wide")) for value in NO_WIDE],
            "tall": [(value, BadNumber("tall")) for value in NO_TALL],
        }, misfits({"wide": 80, "tall": 60}))
        for many in (0, 41, -1):
            self.assertRaisesWith(BadNumber("many"), film_pictures, ONE, CALM, many, 81, 61)
            self.assertRaisesWith(BadNumber("many"), film_pictures, *CROWD, many, 1, 1)

    def test_parameters(self):
        for name, wanted in (
            ("picture_of", ["placing", "wide", "tall"]), ("painted_of", ["one", "other", "side", "wide", "tall"]),
            ("film_pictures", ["one", "other", "many", "wide", "tall"]),
        ):
            self.assertEqual(list(inspect.signature(getattr(pictures, name)).parameters), wanted)
            self.assertEqual(getattr(pictures, name).__module__, "mapflow.pictures")


if __name__ == "__main__":
    unittest.main()
