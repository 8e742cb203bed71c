"""Texts of maps and placings: read back, and the first item that cannot stand."""

import math
import re
import unittest

from mapflow.builds import fan_map
from mapflow.drawings import Placing
from mapflow.errors import BadText
from mapflow.maps import Map
from tests.samples import NOTHINGS, OrderMixin, ears, some_drawing, some_map, some_maps, some_placing
from tests.test_maps import is_a_map

INTEGER = re.compile("0|-?[1-9][0-9]{0,1999}")
LONG = "9" * 2000
STRANGE = (
    "", "0", "1", "2", "5", "58", "59", "60", "61", "-1", "-0", "00", "01", "-01", "+1", "--1", "-", "1-", "1.0", "1e1",
    "x", "/", "//", "|", "||", "0x1", "1_0", "\u0663", "\u00b2", "\n", "1\n", "\t1", "\n1", "None", LONG, "-" + LONG,
    LONG + "9", "-" + LONG + "9", "0" + LONG, "4" * 5000,
)


def first_wrong_dot(items, k, at):
    """Whether the dot at an index cannot stand, being item k of its land."""
    if not INTEGER.fullmatch(items[at]) or not 0 <= int(items[at]) <= 59:
        return True
    land = [int(item) for item in items[at - k:at + 1]]
    if land[-1] in land[:-1] or land[-1] < land[0]:
        return True
    before = [int(item) for item in items[at - k - 4:at - k - 1]] if at >= 4 else []
    return bool(before) and (land < before[:k + 1] or land == before)


def lands_in(items):
    return [tuple(int(item) for item in items[at:at + 3]) for at in range(0, len(items), 4)]


def stop_of_map(text):
    """The index that Map.read tells for a text, None if it is one of a map."""
    items = text.split(" ")
    for at, item in enumerate(items):
        if at % 4 == 3 and (item != "/" or at == 479):
            return at
        if at % 4 < 3 and first_wrong_dot(items, at % 4, at):
            return at
    if len(items) % 4 != 3:
        return len(items)
    return None if is_a_map(lands_in(items)) else len(items) - 1


def stop_of_places(items, begin, dots):
    last = begin + 5 * dots - 1
    for at in range(begin, max(last, len(items))):
        if at == len(items) or at >= last:
            return at
        part = (at - begin) % 5
        if part == 4:
            if items[at] != "/":
                return at
        elif not INTEGER.fullmatch(items[at]):
            return at
        elif part in (1, 3) and (int(items[at]) < 1 or math.gcd(int(items[at - 1]), int(items[at])) > 1):
            return at
    return None


def stop_of_placing(text):
    """The index that Placing.read tells for a text, None if it is one of a placing."""
    items = text.split(" ")
    for at, item in enumerate(items):
        if at % 4 == 3 and item == "|":
            lands = lands_in(items[:at])
            dots = max(dot for land in lands for dot in land) + 1
            return stop_of_places(items, at + 1, dots) if is_a_map(lands) else at
        if at % 4 == 3 and (item != "/" or at == 479):
            return at
        if at % 4 < 3 and first_wrong_dot(items, at % 4, at):
            return at
    return len(items)


def bent_texts(text):
    """The text with each item exchanged, left out, put in, doubled, and the text cut off."""
    items = text.split(" ")
    for at in range(len(items) + 1):
        yield " ".join(items[:at])
        yield " ".join(items[:at] + items[at + 1:])
        yield " ".join(items[:at] + items[at - 1:])
        if at < len(items) and INTEGER.fullmatch(items[at]):
            for step in (-1, 1, 2):
                yield " ".join(items[:at] + [str(int(items[at]) + step)] + items[at + 1:])
        for item in STRANGE:
            yield " ".join(items[:at] + [item] + items[at:])
            yield " ".join(items[:at] + [item] + items[at + 1:])
    for sign in " \n\t/|0":
        yield sign + text
        yield text + sign
    yield text.replace(" ", "  ")
    yield text.replace(" ", "\n")
    yield text.replace(" / ", "/")


class TextsTest(unittest.TestCase, OrderMixin):
    def check_read(self, kind, text, stop):
        if stop is None:
            value = kind.read(text)
            self.assertIs(type(value), kind)
            self.assertEqual(str(value), text)
        else:
            self.assertRaisesWith(BadText(0, stop), kind.read, text)

    def check_all(self, kind, text, stop_of):
        whole = 0
        for bent in set(bent_texts(text)):
            stop = stop_of(bent)
            whole += stop is None
            self.check_read(kind, bent, stop)
        return whole

    def test_no_strings(self):
        for kind in (Map, Placing):
            for value in (*(value for value in NOTHINGS if not isinstance(value, str)), ears(3), ["0 1 2"]):
                self.assertRaisesWith(BadText(0, 0), kind.read, value)
                self.assertRaisesWith(BadText(0, 0), kind.read, text=value)
            self.assertRaisesWith(BadText(0, 0), kind.read, "")
            self.assertRaisesWith(BadText(0, 0), kind.read, " ")
            self.assertRaisesWith(BadText(0, 0), kind.read, "\n")


class MapTextTest(TextsTest):
    def test_there_and_back(self):
        for chart in [*some_maps(), some_map(5, 4, 56), Map([(0, k, k + 1) for k in range(1, 59)])]:
            text = " / ".join(" ".join(str(dot) for dot in land) for land in chart.lands)
            self.assertEqual(str(chart), text)
            self.assertEqual(Map.read(text), chart)
            self.assertEqual(Map.read(text=text).lands, chart.lands)

    def test_bent_texts(self):
        for chart in (Map([(0, 1, 2)]), Map([(0, 2, 1)]), ears(4), fan_map(3), fan_map(4), some_map(2, 4, 2)):
            self.check_all(Map, str(chart), stop_of_map)

    def test_told_stops(self):
        for text, stop in (
            ("0", 1), ("0 1", 2), ("0 1 2 /", 4), ("0 1 2 / 0", 5), ("0 1 2 / 0 2", 6), ("0 1 2 ", 3), (" 0 1 2", 0),
            ("0  1 2", 1), ("0 0 1", 1), ("0 1 1", 2), ("0 1 0", 2), ("1 0 2", 1), ("1 2 0", 2), ("0 1 60", 2),
            ("0 1 59", 2), ("60 1 2", 0), ("-1 0 1", 0), ("-0 1 2", 0), ("00 1 2", 0), ("0 01 2", 1), ("+0 1 2", 0),
            ("0 1 2 3", 3), ("0 1 2 | 0", 3), ("0 1 2 / 0 1 2", 6), ("0 1 3 / 0 1 2", 6), ("0 2 3 / 0 1 4", 5),
            ("1 2 3 / 0 1 4", 4), ("0 1 2 / 3 4 5", 6), ("0 1 2 / 0 2 1", 6), ("0 1 3", 2), ("1 2 3", 2),
            ("0 1 2 / 0 2 3 /", 8), ("0 1 2 / 0 2 3 / x", 8), ("0 1 2 / 0 2 4", 6), ("0 1 2 / 0 2 3 3", 7), ("x", 0),
            ("0,1,2", 0), ("0 1 2\n", 2), ("0 1 2/", 2),
        ):
            self.assertRaisesWith(BadText(0, stop), Map.read, text)
            self.assertEqual(stop_of_map(text), stop, text)

    def test_many_lands(self):
        ascending = [f"{a} {b} {c}" for a in range(3) for b in range(a + 1, 60) for c in range(b + 1, 60)]
        for many in (119, 120):
            self.assertRaisesWith(BadText(0, 4 * many - 2), Map.read, " / ".join(ascending[:many]))
            self.assertRaisesWith(BadText(0, 4 * many - 1), Placing.read, " / ".join(ascending[:many]))
            self.assertRaisesWith(BadText(0, 4 * many - 1), Placing.read, " / ".join(ascending[:many]) + " | 0 1 0 1")
        self.assertRaisesWith(BadText(0, 476), Map.read, " / ".join(ascending[:119]) + " / x")
        self.assertRaisesWith(BadText(0, 476), Map.read, " / ".join(ascending[:119]) + " /")
        for tail in (" /", " x", " ", " / ", " / 0", " / " + ascending[120], " / " + " / ".join(ascending[120:130])):
            for kind in (Map, Placing):
                self.assertRaisesWith(BadText(0, 479), kind.read, " / ".join(ascending[:120]) + tail)


class PlacingTextTest(TextsTest):
    def test_there_and_back(self):
        for k, chart in enumerate(some_maps()):
            for placing in (some_drawing(k, chart), some_placing(k, chart)):
                rows = []
                for x, y in placing.places:
                    rows.append(f"{x[0]} {x[1]} {y[0]} {y[1]}")
                self.assertEqual(str(placing), str(chart) + " | " + " / ".join(rows))
                back = Placing.read(str(placing))
                self.assertEqual(back, placing)
                self.assertEqual(repr((back.places, back.chart.lands)), repr((placing.places, chart.lands)))
                self.assertEqual(Placing.read(text=str(placing)), placing)

    def test_long_integers(self):
        most = 10 ** 2000 - 1
        placing = Placing(Map([(0, 1, 2)]), [(most, -most), ((1, most), (-1, most)), ((-most, 10 ** 1999), 0)])
        text = str(placing)
        self.assertEqual(Placing.read(text), placing)
        for at, item in enumerate(text.split(" ")):
            if len(item) > 3:
                items = text.split(" ")
                items[at] = item + "1"
                self.assertRaisesWith(BadText(0, at), Placing.read, " ".join(items))

    def test_bent_texts(self):
        whole = 0
        for placing in (
            Placing(Map([(0, 2, 1)]), [(0, (-1, 2)), ((4, 3), 0), (12, (35, 6))]),
            Placing(fan_map(3), [(0, 0), (3, 0), (0, 3), ((-1, 2), (5, 6))]), some_placing(3, ears(4)),
        ):
            whole += self.check_all(Placing, str(placing), stop_of_placing)
        self.assertGreater(whole, 100)

    def test_told_stops(self):
        chart, tail = "0 1 2 | ", "0 1 0 1 / 3 1 0 1 / -1 2 3 1"
        self.assertEqual(Placing.read(chart + tail).places[2], ((-1, 2), (3, 1)))
        for text, stop in (
            ("0 1 2", 3), ("0 1 3", 3), ("0 1 2 /", 4), ("0 1 2 |", 4), ("0 1 2 | ", 4), ("0 1 | 2", 2), ("| 0 1 2", 0),
            ("0 1 3 | " + tail, 3), ("0 1 2 / 0 1 3 | " + tail, 7), ("0 1 2 / 0 1 2 | " + tail, 6), ("0 1 2 || " + tail, 3),
            (chart + "| " + tail, 4), (chart + "0", 5), (chart + "0 1 0", 7), (chart + "0 1 0 1", 8),
            (chart + "0 1 0 1 /", 9), (chart + "0 2 0 1", 5), (chart + "0 0 0 1", 5), (chart + "0 -1 0 1", 5),
            (chart + "2 4 0 1", 5), (chart + "-2 4 0 1", 5), (chart + "1 0 0 1", 5), (chart + "1 1 6 9", 7),
            (chart + "1 1 6 1 |", 8), (chart + "-0 1 0 1", 4), (chart + "+1 1 0 1", 4), (chart + "1 01 0 1", 5),
            (chart + tail + " ", 18), (chart + tail + " /", 18), (chart + tail + " / 0 1 0 1", 18),
            (chart + tail[:-2], 17), (chart + tail[:-6], 15), (chart + tail + "0", None), (chart + tail + "x", 17),
        ):
            self.check_read(Placing, text, stop)
            self.assertEqual(stop_of_placing(text), stop, text)


if __name__ == "__main__":
    unittest.main()
