"""Maps: which lands are one, what it keeps, rounds, ties, lands with a way."""

import inspect
import itertools
import random
import unittest

from mapflow import maps
from mapflow.builds import fan_map
from mapflow.errors import BadMap, BadNumber, Misfit
from mapflow.maps import Map, land_at, round_of, ties_of
from tests.samples import NO_DOTS, NOTHINGS, OrderMixin, ears, some_map, some_maps

SQUARE = [(0, 1, 4), (1, 2, 4), (2, 3, 4), (3, 0, 4)]
OCTAHEDRON = [(0, 1, 2), (0, 2, 3), (0, 3, 4), (0, 4, 1), (5, 2, 1), (5, 3, 2), (5, 4, 3), (5, 1, 4)]
RING = [(0, 1, 3), (1, 4, 3), (1, 2, 4), (2, 5, 4), (2, 0, 5), (0, 3, 5)]


def torus():
    """A map of a ring that is closed both ways, seven dots, each two of them tied."""
    return [land for k in range(7) for land in ((k, (k + 1) % 7, (k + 3) % 7), (k, (k + 3) % 7, (k + 2) % 7))]


def ways(land):
    a, b, c = land
    return [(a, b), (b, c), (c, a)]


def pieces(lands, joined):
    """How many pieces there are, if the lands for which joined is true hang together."""
    left = list(lands)
    many = 0
    while left:
        many += 1
        waiting = [left.pop()]
        while waiting:
            land = waiting.pop()
            near = [other for other in left if joined(land, other)]
            left = [other for other in left if other not in near]
            waiting.extend(near)
    return many


def turned(one, other):
    """The ways of one land that the other one has the other way round."""
    return [(a, b) for a, b in ways(one) if (b, a) in ways(other)]


def is_a_map(lands):
    """Whether the lands are a map, just as the document tells it."""
    if not all(len(set(land)) == 3 for land in lands):
        return False
    every = [way for land in lands for way in ways(land)]
    dots = {dot for land in lands for dot in land}
    if len(set(every)) < len(every) or dots != set(range(max(dots) + 1)):
        return False
    for dot in dots:
        own = [land for land in lands if dot in land]
        if pieces(own, lambda one, other: any(dot in way for way in turned(one, other))) > 1:
            return False
    ties = {frozenset(way) for way in every}
    return pieces(lands, turned) == 1 and len(dots) - len(ties) + len(lands) == 1


def rotations(land):
    a, b, c = land
    return [(a, b, c), (b, c, a), (c, a, b)]


class MadeTest(unittest.TestCase, OrderMixin):
    def assertMap(self, lands):
        chart = Map(lands)
        wanted = tuple(sorted(min(rotations(land)) for land in lands))
        self.assertEqual(repr(chart.lands), repr(wanted))
        return chart

    def assertNone(self, lands):
        self.assertRaisesWith(Misfit("lands"), Map, lands)

    def test_fans_and_ears(self):
        for corners in range(3, 13):
            chart = self.assertMap([((k + 1) % corners, corners, k) for k in range(corners)])
            self.assertEqual(repr((chart.frame, chart.dots, chart.inner)),
                             repr((tuple(range(corners)), corners + 1, (corners,))))
        for many in range(3, 12):
            chart = self.assertMap([(k, k + 1, 0) for k in range(1, many - 1)])
            self.assertEqual((chart.frame, chart.dots, chart.inner), (tuple(range(many)), many, ()))

    def test_from_any_dot_and_in_any_order(self):
        for lands in itertools.permutations(SQUARE):
            self.assertEqual(Map(lands), Map(SQUARE))
        for told in itertools.product(*[rotations(land) for land in SQUARE]):
            self.assertEqual(self.assertMap(told), Map(SQUARE))

    def test_lists_for_tuples(self):
        lands = [[0, 1, 4], (1, 2, 4), [2, 3, 4], (3, 0, 4)]
        chart = Map(tuple(lands))
        self.assertEqual(repr(chart.lands), repr(Map(SQUARE).lands))
        lands[0].append(9)
        self.assertEqual(repr(Map(SQUARE).lands), repr(chart.lands))
        self.assertEqual(Map(lands=SQUARE), chart)

    def test_what_is_passed_is_copied(self):
        lands = [[0, 1, 2], [2, 1, 3]]
        chart = Map(lands)
        lands[0][0] = 7
        lands.append((0, 0, 0))
        self.assertEqual(chart.lands, ((0, 1, 2), (1, 3, 2)))

    def test_bent_lands(self):
        for k in range(4):
            left = SQUARE[:k] + SQUARE[k + 1:]
            self.assertMap(left)
            a, b, c = SQUARE[k]
            for land in ((a, c, b), (a, b, 5), (a, b, 6), (b, a, 5)):
                (self.assertMap if land == (a, b, 5) and is_a_map(left + [land]) else self.assertNone)(left + [land])
            self.assertNone(SQUARE + [SQUARE[k]])
            self.assertNone(SQUARE + [(c, a, b)])

    def test_a_land_in_the_midst_left_out(self):
        for seed in range(12):
            whole = some_map(seed, 4, 6)
            for land in whole.lands:
                left = [other for other in whole.lands if other != land]
                if all(dot in whole.inner for dot in land):
                    self.assertNone(left)
                (self.assertMap if is_a_map(left) else self.assertNone)(left)

    def test_no_pieces_side_by_side(self):
        self.assertNone([(0, 1, 2), (3, 4, 5)])
        self.assertNone([(0, 1, 2), (2, 3, 4)])
        self.assertNone(SQUARE + [(1, 0, 5), (5, 6, 7)])
        self.assertNone([(0, 1, 2), (1, 2, 3)])

    def test_no_ball_ring_handle(self):
        self.assertNone([(0, 1, 2), (0, 2, 1)])
        self.assertNone([(0, 1, 2), (0, 2, 3), (0, 3, 1), (3, 2, 1)])
        self.assertNone(OCTAHEDRON)
        self.assertMap(OCTAHEDRON[:-1])
        self.assertNone(OCTAHEDRON + [(6, 7, 8)])
        self.assertNone(RING)
        self.assertNone(RING[:-1])
        self.assertMap(RING[:-2])
        self.assertNone(torus())
        for k in range(14):
            self.assertNone(torus()[:k] + torus()[k + 1:])

    def test_no_pieces_at_one_dot_that_the_numbers_do_not_show(self):
        # Two handles, and a land at one of their dots: dots, less ties as the rounds would have them, and lands are 1.
        names = {0: 0, 1: 3, 3: 1, 2: 7, 4: 8, 5: 9, 6: 10}
        both = [land for land in torus() if land != (0, 1, 3)]
        both.extend([tuple(names[dot] for dot in land) for land in torus() if land != (0, 1, 3)])
        self.assertEqual(len({way for land in both for way in ways(land)}), 78)
        for dot in range(11):
            lands = both + [(dot, 11, 12)]
            self.assertFalse(is_a_map(lands))
            self.assertNone(lands)
        self.assertNone(both)

    def test_a_band_turned_round(self):
        self.assertNone([(0, 1, 2), (1, 3, 2), (2, 3, 4), (3, 0, 4), (4, 0, 1)])

    def test_dots_are_all_there(self):
        self.assertNone([(0, 1, 3)])
        self.assertNone([(1, 2, 3)])
        self.assertNone([(57, 58, 59)])
        self.assertNone([(0, 1, 2), (1, 0, 59)])

    def test_how_many_lands(self):
        chart = some_map(3, 3, 56)
        self.assertEqual(len(chart.lands), 113)
        self.assertMap(chart.lands)
        self.assertNone([(0, k, k + 1) for k in range(1, 59)] * 2)
        self.assertNone([(0, 1, 2)] * 120)
        for many in (0, 121, 122, 500):
            self.assertRaisesWith(BadMap("lands"), Map, [(0, 1, 2)] * many)
        self.assertRaisesWith(BadMap("lands"), Map, ())

    def test_dots_59_and_60(self):
        self.assertEqual(self.assertMap([(0, k, k + 1) for k in range(1, 59)]).dots, 60)
        self.assertRaisesWith(BadMap("lands"), Map, [(0, k, k + 1) for k in range(1, 60)])
        self.assertRaisesWith(BadMap("lands"), Map, [(0, 1, 60)])
        self.assertRaisesWith(BadMap("lands"), Map, [(-1, 0, 1)])

    def test_no_lands(self):
        for value in NOTHINGS:
            self.assertRaisesWith(BadMap("lands"), Map, value)
            self.assertRaisesWith(BadMap("lands"), Map, [value])
            self.assertRaisesWith(BadMap("lands"), Map, [(0, 1, 2), value])
        for land in ((), (0,), (0, 1), (0, 1, 2, 3), (0, 1, 1), (0, 0, 1), (1, 0, 1), ((0, 1, 2), (0, 1, 2), (0, 1, 2))):
            self.assertRaisesWith(BadMap("lands"), Map, [land])
        for dot in NO_DOTS:
            for at in range(3):
                land = [0, 1, 2]
                land[at] = dot
                self.assertRaisesWith(BadMap("lands"), Map, [tuple(land)])
                self.assertRaisesWith(BadMap("lands"), Map, [(0, 1, 2), land])
        self.assertRaisesWith(BadMap("lands"), Map, lands=[(False, True, 2)])

    def test_no_land_ahead_of_no_map(self):
        self.assertRaisesWith(BadMap("lands"), Map, [(0, 1, 2), (0, 1, 2), (0, 1, 60)])

    def test_all_lands_of_four_dots(self):
        every = [land for some in itertools.combinations(range(4), 3) for land in (some, (some[0], some[2], some[1]))]
        many = 0
        for size in range(1, 9):
            for lands in itertools.combinations(every, size):
                if is_a_map(lands):
                    many += 1
                    self.assertMap(lands)
                else:
                    self.assertNone(lands)
        self.assertGreater(many, 20)

    def test_lands_by_chance(self):
        chance = random.Random(4)
        found = {True: 0, False: 0}
        for seed in range(300):
            lands = [list(land) for land in some_map(seed, chance.randint(3, 6), chance.randint(0, 4)).lands]
            for _ in range(chance.randint(0, 2)):
                kind = chance.randint(0, 4)
                land = chance.choice(lands)
                if kind == 0 and len(lands) > 1:
                    lands.remove(land)
                elif kind == 1:
                    land.reverse()
                elif kind == 2:
                    land[chance.randint(0, 2)] = chance.randint(0, 8)
                elif kind == 3:
                    lands.append(chance.sample(range(8), 3))
                else:
                    a, b = chance.sample(range(8), 2)
                    lands = [[{a: b, b: a}.get(dot, dot) for dot in land] for land in lands]
            if all(len(set(land)) == 3 for land in lands):
                found[is_a_map(lands)] += 1
                (self.assertMap if is_a_map(lands) else self.assertNone)(lands)
        self.assertGreater(min(found.values()), 60)


class KeptTest(unittest.TestCase):
    def test_attributes(self):
        for chart in some_maps():
            every = [way for land in chart.lands for way in ways(land)]
            rim = {a: b for a, b in every if (b, a) not in every}
            self.assertEqual(chart.dots, max(dot for land in chart.lands for dot in land) + 1)
            self.assertEqual(sorted(chart.frame + chart.inner), list(range(chart.dots)))
            self.assertEqual(chart.frame[0], min(rim))
            self.assertEqual({a: b for a, b in zip(chart.frame, chart.frame[1:] + chart.frame[:1])}, rim)
            self.assertEqual(list(chart.inner), sorted(set(range(chart.dots)) - set(rim)))
            self.assertEqual(len(chart.lands), len(chart.frame) + 2 * len(chart.inner) - 2)
            for kept in (chart.lands, chart.frame, chart.inner):
                self.assertIs(type(kept), tuple)
            self.assertIs(type(chart.dots), int)

    def test_equal(self):
        charts = some_maps()
        for k, one in enumerate(charts):
            for i, other in enumerate(charts):
                self.assertIs(one == other, one.lands == other.lands)
                self.assertIs(one != other, one.lands != other.lands)
                self.assertTrue(k != i or one == other)
            self.assertIs(one == Map(list(one.lands)), True)
            for value in (*NOTHINGS, one.lands, str(one), [one], Map):
                self.assertIs(one == value, False)
                self.assertIs(value == one, False)

    def test_own_methods(self):
        for name in ("__init__", "__eq__", "__str__", "read"):
            self.assertIn(name, vars(Map))
        self.assertEqual(Map.__module__, "mapflow.maps")


class RoundsTest(unittest.TestCase, OrderMixin):
    def test_rounds(self):
        for chart in some_maps():
            for dot in range(chart.dots):
                ring = round_of(chart, dot)
                self.assertIs(type(ring), tuple)
                near = {other for land in chart.lands if dot in land for other in land if other != dot}
                self.assertEqual(sorted(ring), sorted(near))
                pairs = {(b, c) for land in chart.lands for a, b, c in rotations(land) if a == dot}
                if dot in chart.inner:
                    self.assertEqual(ring[0], min(ring))
                    self.assertEqual(set(zip(ring, ring[1:] + ring[:1])), pairs)
                else:
                    at = chart.frame.index(dot)
                    self.assertEqual((ring[-1], ring[0]),
                                     (chart.frame[at - 1], (chart.frame + chart.frame)[at + 1]))
                    self.assertEqual(set(zip(ring, ring[1:])), pairs)

    def test_told_rounds(self):
        square = Map(SQUARE)
        self.assertEqual([round_of(square, dot) for dot in range(5)],
                         [(1, 4, 3), (2, 4, 0), (3, 4, 1), (0, 4, 2), (0, 1, 2, 3)])
        self.assertEqual(round_of(chart=Map([(0, 2, 1)]), dot=0), (2, 1))

    def test_round_errors(self):
        wrong = {"chart": [(value, BadMap("chart")) for value in (*NOTHINGS, SQUARE)],
                 "dot": [(value, BadNumber("dot")) for value in NO_DOTS]}
        late = [({"dot": dot}, Misfit("dot")) for dot in (5, 6, 59)]
        self.check_order(round_of, {"chart": Map(SQUARE), "dot": 0}, wrong, late)

    def test_ties(self):
        for chart in some_maps():
            every = {tuple(sorted(way)) for land in chart.lands for way in ways(land)}
            self.assertEqual(repr(ties_of(chart)), repr(tuple(sorted(every))))
            self.assertEqual(ties_of(chart=chart), ties_of(chart))
        self.check_order(ties_of, {"chart": ears(4)},
                         {"chart": [(value, BadMap("chart")) for value in (*NOTHINGS, SQUARE)]})

    def test_land_at(self):
        for chart in some_maps():
            found = {way: land for land in chart.lands for way in ways(land)}
            for one in range(chart.dots + 1):
                for other in range(chart.dots + 1):
                    self.assertEqual(repr(land_at(chart, one, other)), repr(found.get((one, other))))
            self.assertIsNone(land_at(chart, one=59, other=58))

    def test_land_at_errors(self):
        wrong = {"chart": [(value, BadMap("chart")) for value in (*NOTHINGS, SQUARE)],
                 "one": [(value, BadNumber("one")) for value in NO_DOTS],
                 "other": [(value, BadNumber("other")) for value in NO_DOTS]}
        self.check_order(land_at, {"chart": Map(SQUARE), "one": 0, "other": 1}, wrong)

    def test_parameters(self):
        for name, wanted in (("round_of", ["chart", "dot"]), ("ties_of", ["chart"]),
                             ("land_at", ["chart", "one", "other"])):
            self.assertEqual(list(inspect.signature(getattr(maps, name)).parameters), wanted)
            self.assertEqual(getattr(maps, name).__module__, "mapflow.maps")


if __name__ == "__main__":
    unittest.main()
