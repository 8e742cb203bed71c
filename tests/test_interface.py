"""The whole interface: each name in the file of its heading, with its arguments, methods and attributes."""

import importlib
import inspect
import re
import unittest
from pathlib import Path

from mapflow.builds import Same, Unlike
from mapflow.drawings import Bent, Fallen, Placing, Sound, Wound
from mapflow.errors import FlowError
from mapflow.flows import Flows, Otherwise
from mapflow.maps import Map
from mapflow.moments import Always
from mapflow.papers import Denial, Paper
from mapflow.straights import Clear, Falls
from mapflow.weights import Weights, even_weights

DOCUMENT = Path(__file__).resolve().parent.parent.parent / "shared" / "DOC.md"
FUNCTIONS = {
    "checks": {"is_integer": "value", "is_within": "value least most", "is_fraction": "value", "is_place": "value"},
    "papers": {"fixed": "value"},
    "fractions": {
        "fraction_of": "value", "added": "one other", "taken": "one other", "multiplied": "one other", "divided": "one other",
        "sum_of": "some", "mixed": "one other share", "sign_of": "value",
    },
    "maps": {"round_of": "chart dot", "ties_of": "chart", "land_at": "chart one other"},
    "builds": {
        "fan_map": "corners", "split_at": "chart land", "exchanged": "chart one other", "renamed": "chart names",
        "mirrored_map": "chart", "judged_same": "one other", "shows_same": "one other value",
    },
    "drawings": {
        "area_of": "placing land", "judged_placing": "placing", "crossing_of": "placing", "is_inside": "placing dot",
        "spread": "placing six",
    },
    "check_drawings": {"shows_placing": "placing value"},
    "weights": {
        "springs": "chart rows", "even_weights": "chart", "rest_of": "weights frame", "pull_of": "placing weights dot",
        "is_rest": "placing weights",
    },
    "tellback": {
        "three_mean": "placing dot neighbour", "weights_of": "placing", "shows_weights": "placing value",
        "mixed_weights": "one other share", "mean_weights": "some",
    },
    "flows": {
        "flow_at": "one other moment", "film_of": "one other many", "walk_at": "drawings moment", "judged_pair": "one other",
        "shows_pair": "one other value",
    },
    "polys": {
        "poly_of": "value", "value_at": "poly at", "poly_sum": "one other", "poly_times": "one other", "poly_parted": "one other",
        "slope_of": "poly", "poly_through": "points",
    },
    "zeros": {
        "rests_of": "poly", "zeros_in": "poly low high", "first_zero": "poly low high width", "is_above": "poly low high",
    },
    "moments": {"flow_polys": "one other", "area_poly": "one other land", "judged_flow": "one other"},
    "check_moments": {"shows_flow": "one other value"},
    "straights": {
        "straight_at": "one other moment", "judged_straight": "one other width", "shows_straight": "one other value",
    },
    "rings": {
        "ring_at": "drawings moment", "shrunk_at": "drawings centre share moment", "films_of": "drawings centre many few",
        "middle_of": "drawings",
    },
    "spots": {
        "spot_of": "placing place", "place_at": "placing land shares", "carried": "one other place",
        "trail_of": "one other place many",
    },
    "drags": {
        "kernel_of": "placing dot", "may_stand": "placing dot place", "dragged": "placing dot place",
        "reach_of": "placing dot place",
    },
    "pictures": {
        "picture_of": "placing wide tall", "painted_of": "one other side wide tall",
        "film_pictures": "one other many wide tall",
    },
}
ERRORS = {
    **{name: "part" for name in ("BadNumber", "BadMap", "BadLand", "BadPlace", "BadPlacing", "BadWeights", "BadPoly", "Misfit")},
    "TooMany": "what most", "BadText": "line item",
}
CLASSES = {"maps": {"Map": "lands"}, "drawings": {"Placing": "chart places"}, "weights": {"Weights": "chart rows"}}
PAPERS = {
    "builds": {"Same": "", "Unlike": "land"}, "drawings": {"Sound": "", "Bent": "dot", "Wound": "laps", "Fallen": "land"},
    "flows": {"Flows": "", "Otherwise": "dot"}, "moments": {"Always": "down places"},
    "straights": {"Clear": "", "Falls": "land low high"},
}
DENIALS = (Unlike, Bent, Wound, Fallen, Otherwise, Falls)
TRUE_PAPERS = (Same, Sound, Flows, Always, Clear)


def module_of(title):
    return importlib.import_module(f"mapflow.{title}")


def parameters_of(thing):
    return list(inspect.signature(thing).parameters)


def tables():
    """All pairs of a heading and a dict of its names."""
    return [*FUNCTIONS.items(), *CLASSES.items(), *PAPERS.items(), ("errors", ERRORS)]


class NamesTest(unittest.TestCase):
    def test_each_name_in_its_file_with_its_arguments(self):
        for title, names in tables():
            for name, wanted in names.items():
                thing = getattr(module_of(title), name)
                self.assertEqual(thing.__module__, f"mapflow.{title}")
                self.assertEqual(parameters_of(thing), wanted.split(), f"{title}: {name}")

    @unittest.skipUnless(DOCUMENT.is_file(), "the document is not at hand")
    def test_all_headings_and_calls_of_the_document(self):
        text = DOCUMENT.read_text("utf-8").split("# The interface")[1]
        parts = re.split(r"^## mapflow/(\w+)\.py$", text, flags=re.M)
        self.assertEqual(set(parts[1::2]), {title for title, _ in tables()})
        for title, told in zip(parts[1::2], parts[2::2]):
            known = {}
            for at, names in tables():
                if at == title:
                    known.update(names)
            prose = re.sub(r"^```\n.*?^```$", "", told, flags=re.S | re.M)
            for name, arguments in re.findall(r"`(\w+)\(([\w, ]*)\)`", prose):
                if name in known:
                    self.assertEqual(arguments.replace(",", "").split(), known[name].split(), name)

    def test_errors(self):
        module = module_of("errors")
        self.assertEqual(FlowError.__bases__, (ValueError,))
        for name, fields in ERRORS.items():
            kind = getattr(module, name)
            self.assertEqual(kind.__bases__, (FlowError,))
            made = kind(*range(len(fields.split())))
            self.assertEqual([getattr(made, field) for field in fields.split()], list(range(len(fields.split()))))

    def test_methods_stand_in_their_classes(self):
        for kind in (Map, Placing):
            for name in ("__init__", "__eq__", "__str__", "read"):
                self.assertIn(name, vars(kind))
            self.assertIsInstance(vars(kind)["read"], (staticmethod, classmethod))
        for kind in (Weights, Paper, Denial):
            for name in ("__init__", "__eq__"):
                self.assertIn(name, vars(kind))

    def test_papers_and_denials(self):
        for kind in TRUE_PAPERS:
            self.assertEqual(kind.__bases__, (Paper,))
        for kind in DENIALS:
            self.assertEqual(kind.__bases__, (Denial,))
        for title, names in PAPERS.items():
            for name, fields in names.items():
                kind = getattr(module_of(title), name)
                self.assertIn(kind, TRUE_PAPERS + DENIALS)
                values = {field: [k, [True]] for k, field in enumerate(fields.split())}
                made = kind(**values)
                self.assertEqual(made, kind(*values.values()))
                self.assertEqual((made.word, bool(made)), (name.lower(), kind in TRUE_PAPERS))
                self.assertEqual(made.parts, tuple((k, (True,)) for k in range(len(values))))
                for k, field in enumerate(values):
                    self.assertEqual(getattr(made, field), (k, (True,)))

    def test_attributes_are_set_when_an_object_is_made(self):
        chart = Map([(0, 1, 2)])
        self.assertLessEqual({"lands", "frame", "dots", "inner"}, set(vars(chart)))
        self.assertLessEqual({"chart", "places"}, set(vars(Placing(chart, [(0, 0), (1, 0), (0, 1)]))))
        self.assertLessEqual({"chart", "rows"}, set(vars(even_weights(chart))))
        self.assertLessEqual({"word", "parts"}, set(vars(Sound())))


if __name__ == "__main__":
    unittest.main()
