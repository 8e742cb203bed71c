"""Reckoning with fractions: against Python's own Fraction, and with wrong arguments."""

import copy
import inspect
import unittest
from fractions import Fraction

from mapflow import fractions
from mapflow.errors import BadNumber, Misfit
from mapflow.fractions import added, divided, fraction_of, mixed, multiplied, sign_of, sum_of, taken

GREAT = 1234567890123456789012345678901234567891
GREATER = 9876543210987654321098765432109876543211
NUMBERS = (
    0, 1, -1, 2, -3, 7, GREAT, -GREATER, (0, 1), (0, 5), [0, 12], (1, 2), [2, 4], (-1, 2), (-2, 4), [6, 4], (-6, 4),
    (3, 1), [12, 4], (5, 6), (7, 12), (-35, 36), (999999, 999998), (GREAT, GREATER), [-GREATER, GREAT],
    (GREAT * 6, GREATER * 9), (1, GREAT), (GREAT * GREATER, GREAT),
)
WRONG = (
    True, False, None, "1", "", b"1", 1.0, 0.5, [], (), [1], (1, 2, 3), (1, 0), [0, 0], (1, -2), (True, 1), (1, True),
    (1, None), ("1", 2), ((1, 2), 3), [[1, 2], 3], {}, {1: 2}, {1, 2}, object(), int,
)
WRONG_LISTS = (None, True, 0, 1, "", "12", b"12", 1.5, {}, {1: 2}, {1, 2}, range(3), object()) + tuple(
    [1, wrong, (1, 2)] for wrong in WRONG
) + tuple((wrong,) for wrong in WRONG)
OF_TWO = (added, taken, multiplied, divided)


def number(value):
    """Python's own Fraction of what the package calls a fraction."""
    return Fraction(value) if isinstance(value, int) else Fraction(value[0], value[1])


class FractionsTest(unittest.TestCase):
    def assertFraction(self, value, wanted):
        """That value is the reduced tuple of plain integers for Python's Fraction wanted."""
        self.assertIs(type(value), tuple)
        self.assertEqual([type(part) for part in value], [int, int])
        self.assertEqual(value, (wanted.numerator, wanted.denominator))

    def assertBad(self, part, call, *args, **names):
        with self.assertRaises(BadNumber) as caught:
            call(*args, **names)
        self.assertEqual(caught.exception.part, part)

    def assertMisfit(self, part, call, *args, **names):
        with self.assertRaises(Misfit) as caught:
            call(*args, **names)
        self.assertEqual(caught.exception.part, part)


class ReducedTest(FractionsTest):
    def test_fraction_of(self):
        for value in NUMBERS:
            self.assertFraction(fraction_of(value), number(value))

    def test_told_results(self):
        self.assertEqual([fraction_of(value) for value in (0, (0, 9), -4, [4, 2], (-4, 6), (10 ** 40, 10 ** 39))],
                         [(0, 1), (0, 1), (-4, 1), (2, 1), (-2, 3), (10, 1)])

    def test_what_comes_stays_so(self):
        for value in NUMBERS:
            self.assertEqual(fraction_of(fraction_of(value)), fraction_of(value))

    def test_by_name(self):
        self.assertEqual(fraction_of(value=[6, 4]), (3, 2))

    def test_no_fraction(self):
        for wrong in WRONG:
            self.assertBad("value", fraction_of, wrong)
            self.assertBad("value", fraction_of, value=wrong)


class OfTwoTest(FractionsTest):
    def test_added_taken_multiplied(self):
        for one in NUMBERS:
            for other in NUMBERS:
                self.assertFraction(added(one, other), number(one) + number(other))
                self.assertFraction(taken(one, other), number(one) - number(other))
                self.assertFraction(multiplied(one, other), number(one) * number(other))

    def test_divided(self):
        for one in NUMBERS:
            for other in NUMBERS:
                if number(other) == 0:
                    self.assertMisfit("other", divided, one, other)
                else:
                    self.assertFraction(divided(one, other), number(one) / number(other))

    def test_told_results(self):
        self.assertEqual([taken((1, 2), (1, 2)), taken(0, (2, 4)), multiplied(0, (-3, 7)), multiplied((-2, 3), (3, -(-2)))],
                         [(0, 1), (-1, 2), (0, 1), (-1, 1)])
        self.assertEqual([divided(0, -5), divided((-1, 2), (-3, 4)), divided((1, 2), (-3, 4)), divided(6, [4, 1])],
                         [(0, 1), (2, 3), (-2, 3), (3, 2)])

    def test_by_name(self):
        self.assertEqual(added(other=1, one=(1, 2)), (3, 2))
        self.assertEqual(taken(other=1, one=(1, 2)), (-1, 2))
        self.assertEqual(multiplied(other=3, one=(1, 2)), (3, 2))
        self.assertEqual(divided(other=3, one=(1, 2)), (1, 6))

    def test_one_argument_is_wrong(self):
        for call in OF_TWO:
            for wrong in WRONG:
                self.assertBad("one", call, wrong, (1, 2))
                self.assertBad("other", call, (1, 2), wrong)

    def test_the_first_wrong_one_is_told(self):
        for call in OF_TWO:
            for wrong in WRONG:
                self.assertBad("one", call, wrong, None)
                self.assertBad("one", call, other=wrong, one="1")

    def test_a_wrong_number_comes_ahead_of_dividing_by_0(self):
        for wrong in WRONG:
            self.assertBad("one", divided, wrong, 0)
            self.assertBad("one", divided, wrong, (0, 5))

    def test_dividing_by_0(self):
        for nothing in (0, (0, 1), [0, 5], (0, GREAT)):
            for one in (0, 1, (-1, 2), GREAT):
                self.assertMisfit("other", divided, one, nothing)


class SumTest(FractionsTest):
    def test_sums(self):
        for some in ([], (), [(1, 2)], [[2, 4]], ((1, 2), (1, 3), (1, 6)), [1, 2], (1, 2), [(1, 2), (-2, 4)],
                     [0, (0, 7)], list(NUMBERS), NUMBERS, [(1, k) for k in range(1, 40)]):
            self.assertFraction(sum_of(some), sum([number(value) for value in some], Fraction(0)))

    def test_by_name(self):
        self.assertEqual(sum_of(some=[(1, 2), 1]), (3, 2))

    def test_no_list_of_fractions(self):
        for wrong in WRONG_LISTS:
            self.assertBad("some", sum_of, wrong)

    def test_a_generator_is_no_list(self):
        self.assertBad("some", sum_of, (value for value in (1, 2)))


class MixedTest(FractionsTest):
    def test_mixed(self):
        shares = (0, 1, (0, 3), [3, 3], (1, 2), [2, 6], 2, (7, 5), -1, (-3, 2), GREAT, (GREAT, GREATER))
        for one in NUMBERS[::3]:
            for other in NUMBERS[::2]:
                for share in shares:
                    wanted = (1 - number(share)) * number(one) + number(share) * number(other)
                    self.assertFraction(mixed(one, other, share), wanted)

    def test_shares_at_and_beyond_the_ends(self):
        self.assertEqual([mixed((2, 4), 5, share) for share in (0, 1, 2, -1, (1, 3))],
                         [(1, 2), (5, 1), (19, 2), (-4, 1), (2, 1)])

    def test_by_name(self):
        self.assertEqual(mixed(share=(1, 4), other=4, one=0), (1, 1))

    def test_one_argument_is_wrong(self):
        for wrong in WRONG:
            self.assertBad("one", mixed, wrong, 1, (1, 2))
            self.assertBad("other", mixed, 1, wrong, (1, 2))
            self.assertBad("share", mixed, 1, 2, wrong)

    def test_the_first_wrong_one_is_told(self):
        for wrong in WRONG:
            self.assertBad("one", mixed, wrong, wrong, wrong)
            self.assertBad("one", mixed, wrong, None, (1, 2))
            self.assertBad("one", mixed, wrong, 1, None)
            self.assertBad("other", mixed, 1, wrong, None)
            self.assertBad("other", mixed, share=None, other=wrong, one=0)


class SignTest(FractionsTest):
    def test_signs(self):
        for value in NUMBERS:
            sign = sign_of(value)
            self.assertIs(type(sign), int)
            self.assertEqual(sign, (number(value) > 0) - (number(value) < 0))

    def test_by_name(self):
        self.assertEqual([sign_of(value=value) for value in ((-1, GREAT), [0, 3], (1, GREAT))], [-1, 0, 1])

    def test_no_fraction(self):
        for wrong in WRONG:
            self.assertBad("value", sign_of, wrong)


class InterfaceTest(unittest.TestCase):
    def test_parameters_and_file(self):
        told = {
            "fraction_of": ["value"], "added": ["one", "other"], "taken": ["one", "other"],
            "multiplied": ["one", "other"], "divided": ["one", "other"], "sum_of": ["some"],
            "mixed": ["one", "other", "share"], "sign_of": ["value"],
        }
        for name, names in told.items():
            call = getattr(fractions, name)
            self.assertEqual(list(inspect.signature(call).parameters), names)
            self.assertEqual(call.__module__, "mapflow.fractions")

    def test_what_is_passed_stays_as_it_was(self):
        one, other, share, some = [6, 4], [2, 8], [2, 4], [[2, 4], [3, 6], 5]
        before = copy.deepcopy((one, other, share, some))
        for call in OF_TWO:
            call(one, other)
        mixed(one, other, share)
        sum_of(some)
        fraction_of(one)
        sign_of(one)
        self.assertEqual((one, other, share, some), before)

    def test_lists_stand_for_tuples(self):
        for call in OF_TWO:
            self.assertEqual(call([6, 4], [2, 8]), call((6, 4), (2, 8)))
        self.assertEqual(mixed([6, 4], [2, 8], [2, 4]), mixed((6, 4), (2, 8), (2, 4)))
        self.assertEqual(sum_of([[6, 4], [2, 8]]), sum_of(((6, 4), (2, 8))))


if __name__ == "__main__":
    unittest.main()
