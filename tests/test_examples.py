"""The examples of the document, as they stand there, and the runner that reads them."""

import importlib
import re
import unittest
from pathlib import Path

from tests.doc_examples import failures_of, rows_of

# In the order of the document: an example uses names as earlier ones made them last.
TITLES = {
    "checks": 2, "papers": 2, "fractions": 4, "maps": 8, "builds": 6, "drawings": 12, "check_drawings": 2, "weights": 12,
    "tellback": 11, "flows": 14, "polys": 7, "zeros": 7, "moments": 7, "check_moments": 2, "straights": 7, "rings": 9, "spots": 9,
    "drags": 7, "pictures": 6,
}
FOLDER = Path(__file__).resolve().parent / "examples"
DOCUMENT = FOLDER.parent.parent.parent / "shared" / "DOC.md"


def text_of(title):
    return (FOLDER / f"{title}.txt").read_text("utf-8")


def all_names():
    names = {}
    for title in ("errors", *TITLES):
        module = importlib.import_module(f"mapflow.{title}")
        names.update({name: value for name, value in vars(module).items() if not name.startswith("_")})
    return names


class ExamplesTest(unittest.TestCase):
    def test_examples_hold(self):
        names = all_names()
        for title in TITLES:
            with self.subTest(title):
                self.assertEqual(failures_of(text_of(title), names), [])

    def test_all_examples_are_read(self):
        self.assertEqual({title: len(rows_of(text_of(title))) for title in TITLES}, TITLES)
        self.assertEqual(sorted(path.stem for path in FOLDER.iterdir()), sorted(TITLES))

    @unittest.skipUnless(DOCUMENT.is_file(), "the document is not at hand")
    def test_examples_stand_as_in_the_document(self):
        parts = re.split(r"^## mapflow/(\w+)\.py$", DOCUMENT.read_text("utf-8"), flags=re.M)
        for title, told in zip(parts[1::2], parts[2::2]):
            if title in TITLES:
                self.assertEqual(re.findall(r"^```\n(.*?)^```$", told, flags=re.S | re.M), [text_of(title)])


class RunnerTest(unittest.TestCase):
    def told_wrong(self, text):
        return len(failures_of(text, all_names()))

    def test_a_wrong_value_fails(self):
        self.assertEqual(self.told_wrong(">>> added(1, 1)\n(3, 1)\n"), 1)
        self.assertEqual(self.told_wrong(">>> is_integer(3)\n1\n"), 1)

    def test_an_error_that_does_not_come_fails(self):
        self.assertEqual(self.told_wrong(">>> added(1, 1)\nraises BadNumber('one')\n"), 1)

    def test_another_error_fails(self):
        self.assertEqual(self.told_wrong(">>> added(1, None)\nraises BadNumber('one')\n"), 1)
        self.assertEqual(self.told_wrong(">>> added(1, None)\nraises Misfit('other')\n"), 1)

    def test_an_assignment_keeps_its_name(self):
        self.assertEqual(self.told_wrong(">>> three = added(1, 2)\n>>> three\n(3, 1)\n"), 0)


if __name__ == "__main__":
    unittest.main()
