"""What is an integer, a fraction, a place; any value may be asked."""

import unittest

from mapflow.checks import is_fraction, is_integer, is_list, is_place, is_within

GREAT = 10 ** 40 + 7
INTEGERS = (0, 1, -1, 2, 59, -59, 256, GREAT, -GREAT, 10 ** 6000)
NO_NUMBERS = (True, False, None, "", "1", "1/2", b"1", 1.0, 0.5, float("nan"), 1j, {}, {1: 2}, object(), int, len)
NO_PAIRS = (
    [], (), [1], (1,), [1, 2, 3], (1, 2, 3), [[1, 2]], ((1, 2),), {1, 2}, {1: 2, 3: 4}, "12", b"12", range(1, 3),
)
FRACTIONS = (
    [2, 4], (2, 4), [0, 1], (0, 7), (-3, 1), [-6, 4], (GREAT, GREAT + 1), (-GREAT, 1), (1, GREAT), [1, 1],
)
NO_FRACTIONS = (
    (1, 0), [1, 0], (1, -2), (0, 0), (0, -1), (1, -GREAT), (1, True), (True, 1), [False, 1], (1, False), (1, None),
    (None, 1), ("1", 2), (1, "2"), (1, 2.0), (1.0, 2), ((1, 2), 3), (1, (2, 3)), [[1, 2], [3, 4]], ((1, 2), (3, 4)),
)


class TellsTruth(unittest.TestCase):
    def assertTells(self, wanted, check, values, *bounds):
        # A value may be too great for Python to write it down, so its index tells which one it is.
        for index, value in enumerate(values):
            with self.subTest(check=check.__name__, index=index):
                self.assertIs(check(value, *bounds), wanted)


class IntegerTest(TellsTruth):
    def test_integers(self):
        self.assertTells(True, is_integer, INTEGERS)

    def test_other_values(self):
        self.assertTells(False, is_integer, NO_NUMBERS + NO_PAIRS + FRACTIONS + NO_FRACTIONS)

    def test_by_name(self):
        self.assertIs(is_integer(value=3), True)


class WithinTest(TellsTruth):
    def test_both_bounds_count(self):
        self.assertTells(True, is_within, (3, 4, 5), 3, 5)
        self.assertTells(False, is_within, (2, 6, -4, GREAT, -GREAT), 3, 5)
        self.assertTells(True, is_within, (0,), 0, 0)
        self.assertTells(False, is_within, (-1, 1), 0, 0)

    def test_bounds_below_zero(self):
        self.assertTells(True, is_within, (-5, -4, -3), -5, -3)
        self.assertTells(False, is_within, (-6, -2, 0, 4), -5, -3)

    def test_a_bound_of_zero_is_a_bound(self):
        self.assertTells(False, is_within, (-1, -GREAT), 0, None)
        self.assertTells(False, is_within, (1, GREAT), None, 0)

    def test_no_bounds(self):
        self.assertTells(True, is_within, INTEGERS, None, None)
        self.assertTells(True, is_within, (3, 4, GREAT), 3, None)
        self.assertTells(False, is_within, (2, -GREAT), 3, None)
        self.assertTells(True, is_within, (3, 2, -GREAT), None, 3)
        self.assertTells(False, is_within, (4, GREAT), None, 3)

    def test_great_bounds(self):
        self.assertTells(True, is_within, (GREAT - 1, GREAT, GREAT + 1), GREAT - 1, GREAT + 1)
        self.assertTells(False, is_within, (GREAT - 2, GREAT + 2), GREAT - 1, GREAT + 1)

    def test_none_lies_between_crossed_bounds(self):
        self.assertTells(False, is_within, (1, 2, 3, 4, 5), 4, 2)

    def test_other_values(self):
        for bounds in ((None, None), (0, 1), (0, None), (None, 1), (-GREAT, GREAT)):
            self.assertTells(False, is_within, NO_NUMBERS + NO_PAIRS + FRACTIONS + NO_FRACTIONS, *bounds)

    def test_by_name(self):
        self.assertIs(is_within(most=5, least=3, value=4), True)
        self.assertIs(is_within(6, least=3, most=5), False)


class FractionTest(TellsTruth):
    def test_integers(self):
        self.assertTells(True, is_fraction, INTEGERS)

    def test_pairs(self):
        self.assertTells(True, is_fraction, FRACTIONS)
        self.assertTells(False, is_fraction, NO_FRACTIONS)

    def test_other_values(self):
        self.assertTells(False, is_fraction, NO_NUMBERS + NO_PAIRS)

    def test_by_name(self):
        self.assertIs(is_fraction(value=(1, 2)), True)


class PlaceTest(TellsTruth):
    def test_pairs_of_fractions(self):
        numbers = INTEGERS + FRACTIONS
        for one in numbers:
            self.assertTells(True, is_place, [(one, other) for other in numbers])
            self.assertTells(True, is_place, [[one, other] for other in numbers])

    def test_one_of_the_two_is_none(self):
        for wrong in NO_NUMBERS + NO_PAIRS + NO_FRACTIONS:
            self.assertTells(False, is_place, [(wrong, 1), (1, wrong), [wrong, (1, 2)], [(1, 2), wrong]])

    def test_wrong_lengths(self):
        self.assertTells(False, is_place, NO_PAIRS)
        self.assertTells(False, is_place, ([(1, 2)], [(1, 2), (1, 2), (1, 2)], (0, 0, 0, 0)))

    def test_other_values(self):
        self.assertTells(False, is_place, INTEGERS + NO_NUMBERS)

    def test_by_name(self):
        self.assertIs(is_place(value=[0, 0]), True)


class ListTest(TellsTruth):
    def test_lists_and_tuples(self):
        self.assertTells(True, is_list, ([], (), [1], (1,), [[1]]))
        self.assertTells(False, is_list, INTEGERS + NO_NUMBERS + ({1, 2}, "12", range(3)))


class UnchangedTest(unittest.TestCase):
    def test_what_is_passed_stays(self):
        value = [[6, 4], [2, 2]]
        for check in (is_integer, is_fraction, is_place):
            check(value)
        is_within(value, 0, 1)
        self.assertEqual(value, [[6, 4], [2, 2]])


if __name__ == "__main__":
    unittest.main()
