"""Papers and denials: what they keep, their truth, when two are equal."""

import copy
import unittest

from mapflow.papers import Denial, Paper, fixed


class Same(Paper):
    """A class as the later files have them, to show that its class counts."""

    def __init__(self):
        Paper.__init__(self, "same")


class Also(Paper):
    def __init__(self):
        Paper.__init__(self, "same")


class Unlike(Denial):
    def __init__(self, land):
        Denial.__init__(self, "unlike", land)
        self.land = fixed(land)


class FixedTest(unittest.TestCase):
    def test_lists_become_tuples(self):
        for value, wanted in (
            ([], ()), ((), ()), ([1], (1,)), ([[]], ((),)), ([1, (2, [3])], (1, (2, (3,)))),
            ((1, [2, (3, [4])]), (1, (2, (3, (4,))))), ([[[[]]], ()], ((((),),), ())),
        ):
            self.assertEqual(fixed(value), wanted)
            self.assertEqual(repr(fixed(value)), repr(wanted))

    def test_other_values_stay(self):
        for value in (None, True, False, 0, -1, 10 ** 40, 1.5, "", "[1]", b"[1]", {"a": [1]}, {1, 2}, object(), range(3)):
            self.assertIs(fixed(value), value)
            self.assertIs(fixed([value])[0], value)
            self.assertIs(fixed((0, [value]))[1][0], value)

    def test_a_list_in_a_dict_stays(self):
        self.assertEqual(fixed([{"a": [1]}, [{"b": [[]]}]]), ({"a": [1]}, ({"b": [[]]},)))

    def test_a_paper_stays(self):
        note = Paper("note", [1])
        self.assertIs(fixed([note])[0], note)

    def test_thirty_deep(self):
        value, wanted = [], ()
        for _ in range(30):
            value, wanted = [value], (wanted,)
        self.assertEqual(fixed(value), wanted)

    def test_what_is_passed_stays_as_it_was(self):
        value = [1, (2, [3, {"a": [4]}]), []]
        before = copy.deepcopy(value)
        fixed(value)
        self.assertEqual(value, before)

    def test_by_name(self):
        self.assertEqual(fixed(value=[1]), (1,))


class KeptTest(unittest.TestCase):
    def test_word_and_parts(self):
        for kind in (Paper, Denial):
            made = kind("note", [1, (2, [3])], None, "x")
            self.assertEqual(made.word, "note")
            self.assertEqual(made.parts, ((1, (2, (3,))), None, "x"))
            self.assertEqual(repr(made.parts), "((1, (2, (3,))), None, 'x')")

    def test_no_parts(self):
        for kind in (Paper, Denial):
            self.assertEqual(kind("none").parts, ())
            self.assertEqual(kind(word="none").word, "none")

    def test_one_part_that_is_a_list_is_one_part(self):
        for kind in (Paper, Denial):
            self.assertEqual(kind("note", [1, 2]).parts, ((1, 2),))
            self.assertEqual(kind("note", 1, 2).parts, (1, 2))
            self.assertEqual(kind("note", []).parts, ((),))

    def test_what_is_passed_is_copied_and_stays(self):
        for kind in (Paper, Denial):
            part = [1, (2, [3])]
            made = kind("note", part)
            self.assertEqual(part, [1, (2, [3])])
            part.append(4)
            part[1][1].append(5)
            self.assertEqual(made.parts, ((1, (2, (3,))),))

    def test_a_class_below_keeps_its_part(self):
        made = Unlike([0, 1, 2])
        self.assertEqual((made.word, made.parts, made.land), ("unlike", ((0, 1, 2),), (0, 1, 2)))


class TruthTest(unittest.TestCase):
    def test_a_denial_is_false(self):
        for made in (Denial("no"), Denial("note", 1), Denial("same", []), Unlike((0, 1, 2))):
            self.assertIs(bool(made), False)

    def test_every_other_paper_is_true(self):
        for made in (Paper("no"), Paper(""), Paper("note", 0), Paper("note", []), Paper("denial", False), Same()):
            self.assertIs(bool(made), True)

    def test_classes(self):
        self.assertTrue(issubclass(Denial, Paper))
        self.assertEqual(Denial.__bases__, (Paper,))
        self.assertEqual(Paper.__bases__, (object,))


class EqualTest(unittest.TestCase):
    def assertSame(self, one, other):
        self.assertIs(one == other, True)
        self.assertIs(other == one, True)
        self.assertIs(one != other, False)

    def assertUnlike(self, one, other):
        self.assertIs(one == other, False)
        self.assertIs(other == one, False)
        self.assertIs(one != other, True)

    def test_within_one_class(self):
        for kind in (Paper, Denial):
            self.assertSame(kind("note"), kind("note"))
            self.assertSame(kind("note", [1, (2, [3])]), kind("note", (1, [2, (3,)])))
            self.assertSame(kind("note", {"a": [1]}), kind("note", {"a": [1]}))
            self.assertUnlike(kind("note"), kind("Note"))
            self.assertUnlike(kind("note"), kind("note", None))
            self.assertUnlike(kind("note", 1, 2), kind("note", 2, 1))
            self.assertUnlike(kind("note", 1, 2), kind("note", [1, 2]))
            self.assertUnlike(kind("note", [1]), kind("note", [[1]]))
            self.assertUnlike(kind("note", {"a": [1]}), kind("note", {"a": (1,)}))

    def test_as_python_compares(self):
        self.assertSame(Paper("note", True), Paper("note", 1))
        self.assertSame(Paper("note", 2.0), Paper("note", 2))
        self.assertUnlike(Paper("note", (2, 4)), Paper("note", (1, 2)))

    def test_across_classes(self):
        self.assertUnlike(Paper("note", 1), Denial("note", 1))
        self.assertUnlike(Paper("same"), Same())
        self.assertUnlike(Same(), Also())
        self.assertUnlike(Denial("unlike", (0, 1, 2)), Unlike((0, 1, 2)))
        self.assertSame(Same(), Same())
        self.assertSame(Unlike([0, 1, 2]), Unlike((0, 1, 2)))
        self.assertUnlike(Unlike([0, 1, 2]), Unlike((1, 2, 0)))

    def test_with_other_values(self):
        for made in (Paper("note", 1), Denial("note", 1), Paper("note"), Same()):
            for value in (None, True, False, 0, 1, "note", (), [], ("note", 1), ("note", (1,)), {}, object(), Paper):
                self.assertUnlike(made, value)

    def test_each_class_has_its_own_methods(self):
        for kind in (Paper, Denial):
            self.assertIn("__init__", vars(kind))
            self.assertIn("__eq__", vars(kind))
            self.assertEqual(kind.__module__, "mapflow.papers")


if __name__ == "__main__":
    unittest.main()
