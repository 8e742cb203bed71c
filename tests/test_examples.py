"""The examples of the document, as they stand there, and the runner that reads them."""

import unittest

from mapflow import checks, errors, fractions, papers
from tests.doc_examples import failures_of, rows_of

CHECKS = """
>>> [is_integer(True), is_within(3, None, 3), is_fraction(7), is_fraction([2, 4]), is_fraction((1, 0)), is_fraction((1, -2)), is_fraction((1, True))]
[False, True, True, True, False, False, False]
>>> [is_place((1, [2, 4])), is_place([0, 0]), is_place((1, 2, 3)), is_place(5)]
[True, True, False, False]
"""

PAPERS = """
>>> note = Paper("note", [1, (2, [3])])
>>> [note.parts, bool(note), bool(Denial("no")), note == Denial("note", [1, (2, [3])]), fixed([[], {"a": [1]}])]
[((1, (2, (3,))),), True, False, False, ((), {'a': [1]})]
"""

FRACTIONS = """
>>> [fraction_of([6, 4]), fraction_of(-3), added((1, 6), (1, 3)), taken(1, (1, 3)), multiplied((2, 3), (3, 4)), divided((1, 2), -3)]
[(3, 2), (-3, 1), (1, 2), (2, 3), (1, 2), (-1, 6)]
>>> [sum_of([(1, 2), (1, 3), (1, 6)]), sum_of([]), mixed(0, (3, 2), (1, 3)), mixed((1, 2), 2, 2), sign_of((-4, 8)), sign_of(0)]
[(1, 1), (0, 1), (1, 2), (7, 2), -1, 0]
>>> divided(1, (0, 5))
raises Misfit('other')
>>> added(1, (1, 0))
raises BadNumber('other')
"""


def all_names():
    names = {}
    for module in (errors, checks, papers, fractions):
        names.update({name: value for name, value in vars(module).items() if not name.startswith("_")})
    return names


class ExamplesTest(unittest.TestCase):
    def test_examples_hold(self):
        for title, text in (("checks", CHECKS), ("papers", PAPERS), ("fractions", FRACTIONS)):
            with self.subTest(title):
                self.assertEqual(failures_of(text, all_names()), [])

    def test_all_examples_are_read(self):
        self.assertEqual([len(rows_of(text)) for text in (CHECKS, PAPERS, FRACTIONS)], [2, 2, 4])


class RunnerTest(unittest.TestCase):
    def told_wrong(self, text):
        return len(failures_of(text, all_names()))

    def test_a_wrong_value_fails(self):
        self.assertEqual(self.told_wrong(">>> added(1, 1)\n(3, 1)\n"), 1)
        self.assertEqual(self.told_wrong(">>> is_integer(3)\n1\n"), 1)

    def test_an_error_that_does_not_come_fails(self):
        self.assertEqual(self.told_wrong(">>> added(1, 1)\nraises BadNumber('one')\n"), 1)

    def test_another_error_fails(self):
        self.assertEqual(self.told_wrong(">>> added(1, None)\nraises BadNumber('one')\n"), 1)
        self.assertEqual(self.told_wrong(">>> added(1, None)\nraises Misfit('other')\n"), 1)

    def test_an_assignment_keeps_its_name(self):
        self.assertEqual(self.told_wrong(">>> three = added(1, 2)\n>>> three\n(3, 1)\n"), 0)


if __name__ == "__main__":
    unittest.main()
