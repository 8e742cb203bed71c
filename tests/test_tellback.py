"""Three-means, weights told back, weights between weights."""

import inspect
import unittest
from fractions import Fraction

from mapflow import tellback
from mapflow.builds import fan_map, mirrored_map, renamed, split_at
from mapflow.drawings import Placing
from mapflow.errors import BadNumber, BadPlacing, BadWeights, Misfit
from mapflow.maps import Map
from mapflow.tellback import mean_weights, mixed_weights, shows_weights, three_mean, weights_of
from mapflow.weights import Weights, even_weights, is_rest, rest_of, springs
from tests.samples import (
    NO_DOTS, NO_FRACTIONS, OrderMixin, area, ears, even_drawing, number, pair, point, some_drawing, some_map, some_maps,
    some_placing, some_weights,
)
from tests.test_drawings import NO_PLACINGS, SIDES, SQUARE, STAR, moved
from tests.test_weights import EVEN, NO_WEIGHTS, TRI, TWO, pulls

AMID, ASIDE = Placing(SQUARE, SIDES + [(2, 2)]), Placing(SQUARE, SIDES + [(1, 2)])
NO_DRAWINGS = (
    moved(ASIDE, 4, (5, 2)), moved(ASIDE, 4, (4, 2)), moved(ASIDE, 4, (0, 0)), moved(ASIDE, 2, (1, 1)), moved(ASIDE, 2, (2, 2)),
    Placing(SQUARE, SIDES[::-1] + [(1, 2)]), Placing(fan_map(5), STAR + [(0, 0)]),
)
NO_SHARES = (*NO_FRACTIONS, -1, 2, (-1, 2), (3, 2), (10 ** 9 + 1, 10 ** 9), [-1, 10 ** 9])


def some_drawings():
    found = [AMID, ASIDE]
    for seed, chart in enumerate(some_maps()):
        found.extend([some_drawing(seed, chart), even_drawing(chart)])
    # A whole grid of places: rays that meet dots, and ties.
    for x in range(1, 8):
        for y in range(1, 8):
            found.append(moved(AMID, 4, ((x, 2), (y, 2))))
    hexagon = [(2, 0), (4, 0), (5, 2), (4, 4), (2, 4), (1, 2)]
    found.extend([Placing(fan_map(6), hexagon + [place]) for place in ((3, 2), (2, 2), (3, 1), ((5, 2), (3, 2)))])
    return found


def triple(placing, dot, neighbour):
    """The three-mean, found by trying each tie of the round."""
    spots = [point(place) for place in placing.places]
    ring = placing.chart.rounds[dot]
    found = set()
    for k, other in enumerate(ring):
        one = ring[k - 1]
        if neighbour in (one, other):
            corners = [one, other]
        else:
            corners = [neighbour, one, other]
        if len(corners) == 2:
            mate = one if other == neighbour else other
            if area(spots[neighbour], spots[dot], spots[mate]) != 0:
                continue
            axis = 0 if spots[neighbour][0] != spots[mate][0] else 1
            share = (spots[dot][axis] - spots[mate][axis]) / (spots[neighbour][axis] - spots[mate][axis])
            if 0 < share < 1:
                found.add(tuple(sorted([(neighbour, pair(share)), (mate, pair(1 - share))])))
            continue
        whole = area(*[spots[corner] for corner in corners])
        if whole == 0:
            continue
        shares = []
        for corner in corners:
            at = [spots[dot] if other_corner == corner else spots[other_corner] for other_corner in corners]
            shares.append(area(*at) / whole)
        if min(shares) >= 0:
            found.add(tuple(sorted((corner, pair(share)) for corner, share in zip(corners, shares) if share > 0)))
    (only,) = found
    return only


class ThreeMeanTest(unittest.TestCase, OrderMixin):
    def test_as_the_document_tells(self):
        lengths = {2: 0, 3: 0}
        for placing in some_drawings():
            for dot in placing.chart.inner:
                for neighbour in placing.chart.rounds[dot]:
                    told = three_mean(placing, dot, neighbour)
                    self.assertEqual(repr(told), repr(triple(placing, dot, neighbour)))
                    lengths[len(told)] += 1
                    self.assertEqual(sum(number(share) for _, share in told), 1)
                    self.assertIn(neighbour, [which for which, _ in told])
                    for k in (0, 1):
                        mean = sum(number(share) * point(placing.places[which])[k] for which, share in told)
                        self.assertEqual(mean, point(placing.places[dot])[k])
        self.assertGreater(min(lengths.values()), 20)

    def test_told_ones(self):
        self.assertEqual(three_mean(AMID, 4, 1), ((1, (1, 2)), (3, (1, 2))))
        self.assertEqual(three_mean(neighbour=0, dot=4, placing=ASIDE), ((0, (1, 2)), (2, (1, 4)), (3, (1, 4))))

    def test_errors(self):
        late = [({"placing": placing}, Misfit("placing")) for placing in NO_DRAWINGS]
        late.extend([({"placing": placing, "dot": 0, "neighbour": 4}, Misfit("placing")) for placing in NO_DRAWINGS])
        late.extend([({"dot": dot, "neighbour": other}, Misfit("dot")) for dot in (0, 3, 5, 59) for other in (0, 4, 5, 59)])
        late.extend([({"neighbour": other}, Misfit("neighbour")) for other in (4, 5, 59)])
        self.check_order(three_mean, {"placing": ASIDE, "dot": 4, "neighbour": 0}, {
            "placing": [(value, BadPlacing("placing")) for value in NO_PLACINGS],
            "dot": [(value, BadNumber("dot")) for value in NO_DOTS],
            "neighbour": [(value, BadNumber("neighbour")) for value in NO_DOTS],
        }, late)
        far = some_drawing(1, some_map(1, 6, 4))
        for dot in far.chart.inner:
            for other in range(far.chart.dots + 1):
                if other not in far.chart.rounds[dot]:
                    self.assertRaisesWith(Misfit("neighbour"), three_mean, far, dot, other)


class ToldBackTest(unittest.TestCase, OrderMixin):
    def test_mean_of_three_means(self):
        for placing in some_drawings():
            told = weights_of(placing)
            self.assertIs(type(told), Weights)
            self.assertEqual(told.chart, placing.chart)
            for dot, row in zip(placing.chart.inner, told.rows):
                ring = placing.chart.rounds[dot]
                sums = {other: Fraction(0) for other in ring}
                for neighbour in ring:
                    for which, share in triple(placing, dot, neighbour):
                        sums[which] += number(share) / len(ring)
                self.assertEqual(repr(row), repr(tuple(pair(sums[other]) for other in ring)))

    def test_the_rest_is_the_drawing_again(self):
        for placing in some_drawings():
            told = weights_of(placing=placing)
            frame = [placing.places[dot] for dot in placing.chart.frame]
            self.assertEqual(rest_of(told, frame), placing)
            self.assertIs(shows_weights(placing, told), True)
            self.assertIs(is_rest(placing, told), True)

    def test_without_inner_dots(self):
        for chart in (Map([(0, 2, 1)]), ears(6)):
            self.assertEqual(weights_of(some_drawing(0, chart)).rows, ())

    def test_great_fractions(self):
        chart = some_map(2, 5, 5)
        for seed in range(3):
            placing = some_drawing(seed, chart)
            near = [((int(number(x) * 999983), 999983), (int(number(y) * 999979), 999979)) for x, y in placing.places]
            drawing = Placing(chart, near)
            self.assertEqual(rest_of(weights_of(drawing), [drawing.places[dot] for dot in chart.frame]), drawing)

    def test_errors(self):
        self.check_order(weights_of, {"placing": ASIDE}, {
            "placing": [(value, BadPlacing("placing")) for value in NO_PLACINGS],
        }, [({"placing": placing}, Misfit("placing")) for placing in NO_DRAWINGS])


class ShowsTest(unittest.TestCase, OrderMixin):
    def test_as_the_document_tells(self):
        found = {True: 0, False: 0}
        for seed, chart in enumerate(some_maps()):
            charts = [chart, mirrored_map(chart)]
            placings = [some_drawing(seed, chart), some_drawing(seed + 1, chart), some_placing(seed, chart)]
            values = [some_weights(seed, chart), some_weights(seed + 1, chart), even_weights(chart), weights_of(placings[0])]
            values.extend([even_weights(other) for other in charts])
            for placing in placings:
                for value in values:
                    right = value.chart == chart and all(pull == (0, 0) for pull in pulls(placing, value).values())
                    found[right] += 1
                    self.assertIs(shows_weights(placing, value), right)
        self.assertGreater(min(found.values()), 30)
        flat = Placing(TRI, [(0, 0), (1, 1), (2, 2), (1, 1)])
        self.assertIs(shows_weights(flat, EVEN), True)

    def test_other_values(self):
        for value in (*NO_WEIGHTS, EVEN, even_weights(TWO), AMID, "even", even_weights(renamed(SQUARE, [1, 2, 3, 4, 0]))):
            self.assertIs(shows_weights(AMID, value), False)
        self.assertIs(shows_weights(value=even_weights(SQUARE), placing=AMID), True)
        self.assertIs(shows_weights(AMID, even_weights(Map(list(SQUARE.lands)))), True)

    def test_errors(self):
        self.check_order(shows_weights, {"placing": AMID, "value": None}, {
            "placing": [(value, BadPlacing("placing")) for value in NO_PLACINGS],
        })


class MixedTest(unittest.TestCase, OrderMixin):
    def test_mixed(self):
        for seed, chart in enumerate(some_maps()):
            one, other = some_weights(seed, chart), some_weights(seed + 7, chart)
            for share in (0, 1, (1, 2), [2, 4], (1, 3), (0, 9), (7, 7), (999999, 10 ** 6), (1, 10 ** 40)):
                made = mixed_weights(one, other, share)
                part = number(share)
                wanted = []
                for first, second in zip(one.rows, other.rows):
                    row = [(1 - part) * number(weight) + part * number(more) for weight, more in zip(first, second)]
                    wanted.append(tuple(pair(weight) for weight in row))
                self.assertEqual(repr(made.rows), repr(tuple(wanted)))
                self.assertEqual(made.chart, chart)
            self.assertEqual(mixed_weights(share=0, other=other, one=one), one)
            self.assertEqual(mixed_weights(one, other, [3, 3]), other)

    def test_errors(self):
        late = [({"other": other}, Misfit("other")) for other in (even_weights(TWO), even_weights(SQUARE), even_weights(ears(3)))]
        late.append(({"one": even_weights(TWO)}, Misfit("other")))
        self.check_order(mixed_weights, {"one": EVEN, "other": springs(TRI, [[3, 2, 1]]), "share": (1, 2)}, {
            "one": [(value, BadWeights("one")) for value in NO_WEIGHTS],
            "other": [(value, BadWeights("other")) for value in NO_WEIGHTS],
            "share": [(value, BadNumber("share")) for value in NO_SHARES],
        }, late)

    def test_means(self):
        for seed, chart in enumerate(some_maps()):
            for many in (1, 2, 3, 5, 11, 12):
                some = [some_weights(seed + 3 * k, chart) for k in range(many)]
                made = mean_weights(some)
                self.assertEqual(made.chart, chart)
                for k, row in enumerate(made.rows):
                    wanted = [sum(number(each.rows[k][i]) for each in some) / many for i in range(len(row))]
                    self.assertEqual(repr(row), repr(tuple(pair(weight) for weight in wanted)))
                self.assertEqual(mean_weights(some=tuple(some[::-1])), made)
            self.assertEqual(mean_weights([some[0]] * 12), some[0])

    def test_mean_errors(self):
        wrong = [value for value in NO_WEIGHTS if value != [EVEN]] + [
            [], (), [EVEN] * 13, [EVEN] * 40, EVEN, [EVEN, None], [None, EVEN], (EVEN, TRI), [EVEN, [EVEN]], {0: EVEN}, [EVEN.rows],
            [even_weights(SQUARE), EVEN, None],
        ]
        late = [({"some": some}, Misfit("some")) for some in (
            [EVEN, even_weights(TWO)], [EVEN, EVEN, even_weights(SQUARE), EVEN], (even_weights(ears(3)), EVEN),
            [EVEN] * 11 + [even_weights(mirrored_map(TRI))],
        )]
        self.check_order(mean_weights, {"some": [EVEN, EVEN]}, {
            "some": [(value, BadWeights("some")) for value in wrong],
        }, late)

    def test_what_is_passed_stays(self):
        some = [EVEN, springs(TRI, [[3, 2, 1]])]
        mean_weights(some)
        self.assertEqual([each.rows for each in some], [(((1, 3),) * 3,), (((1, 2), (1, 3), (1, 6)),)])
        self.assertEqual(split_at(TRI, (0, 1, 3)), TWO)

    def test_parameters(self):
        for name, wanted in (
            ("three_mean", ["placing", "dot", "neighbour"]), ("weights_of", ["placing"]), ("shows_weights", ["placing", "value"]),
            ("mixed_weights", ["one", "other", "share"]), ("mean_weights", ["some"]),
        ):
            self.assertEqual(list(inspect.signature(getattr(tellback, name)).parameters), wanted)
            self.assertEqual(getattr(tellback, name).__module__, "mapflow.tellback")


if __name__ == "__main__":
    unittest.main()
