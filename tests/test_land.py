import itertools
import unittest
from fractions import Fraction

from gromatic.errors import Loose, NoLine
from gromatic.land import KINDS, Land
from helpers import filled, refuse, spot

SPOTS = {"a": spot(0, 0), "b": spot(Fraction(1, 2), -3), "c": spot(4, Fraction(1, 3)), "d": spot(4, 4), "e": spot(0, 9)}
LINES = {
    "coast": ("shore", ("a", "b", "c", "d")), "beta": ("road", ("d", "x", "y")), "alpha": ("border", ("e", "y", "x")),
    "zoo": ("road", ("e", "d")),
}
SITES = {"town": ("b", 3), "farm": ("x", 9)}


def held(lines, sites=None):
    """The held marks of a land where all marks from a to h have spots."""
    return Land({name: spot(0, 0) for name in "abcdefgh"}, lines, sites or {}).held()


class Making(unittest.TestCase):
    def test_kinds(self):
        self.assertEqual(KINDS, ("road", "shore", "border"))
        self.assertIs(type(KINDS), tuple)

    def test_told(self):
        land = Land(SPOTS, LINES, SITES)
        self.assertEqual((land.spots(), land.lines(), land.sites()), (SPOTS, LINES, SITES))
        self.assertEqual(land, Land(sites=SITES, lines=LINES, spots=SPOTS))

    def test_empty(self):
        land = Land({}, {}, {})
        self.assertEqual((land.spots(), land.lines(), land.sites()), ({}, {}, {}))
        self.assertEqual((land.known(), land.held()), ([], []))

    def test_what_was_handed_in_may_be_changed(self):
        spots, lines, sites = dict(SPOTS), dict(LINES), dict(SITES)
        land = Land(spots, lines, sites)
        spots["x"] = spots["y"] = spot(1, 1)
        lines.clear()
        sites["new"] = ("c", 1)
        self.assertEqual(land, Land(SPOTS, LINES, SITES))
        self.assertEqual((land.known(), land.held()), (["coast", "zoo"], ["a", "b", "d", "e"]))

    def test_what_was_told_may_be_changed(self):
        land = Land(SPOTS, LINES, SITES)
        for told in (land.spots(), land.lines(), land.sites(), land.known(), land.row("zoo"), land.held()):
            told.clear()
        self.assertEqual(land, Land(SPOTS, LINES, SITES))
        self.assertEqual((land.known(), land.held()), (["coast", "zoo"], ["a", "b", "d", "e"]))
        self.assertEqual(land.row("zoo"), [SPOTS["e"], SPOTS["d"]])


class Known(unittest.TestCase):
    def test_rising_whatever_the_order(self):
        spots = {**SPOTS, "x": spot(1, 1)}
        for keys in itertools.permutations(LINES):
            self.assertEqual(Land(SPOTS, filled(LINES, keys), SITES).known(), ["coast", "zoo"])
            self.assertEqual(Land({**spots, "y": spot(0, 0)}, filled(LINES, keys), SITES).known(), sorted(LINES))

    def test_all_marks_need_spots(self):
        self.assertEqual(Land({**SPOTS, "x": spot(1, 1)}, LINES, {}).known(), ["coast", "zoo"])
        self.assertEqual(Land({}, LINES, SITES).known(), [])


class RowAndLength(unittest.TestCase):
    def test_row(self):
        land = Land(SPOTS, LINES, SITES)
        self.assertEqual(land.row("coast"), [SPOTS[name] for name in "abcd"])
        self.assertEqual(Land(SPOTS, {"l": ("road", ("a", "d", "a"))}, {}).row("l"),
                         [SPOTS["a"], SPOTS["d"], SPOTS["a"]])

    def test_length(self):
        land = Land(SPOTS, LINES, SITES)
        self.assertEqual(land.length("zoo"), (9, 1))
        first = Fraction(1, 2) + 3
        second = Fraction(7, 2) + Fraction(10, 3)
        told = first + second + Fraction(11, 3)
        self.assertEqual(land.length("coast"), (told.numerator, told.denominator))

    def test_length_there_and_back(self):
        self.assertEqual(Land(SPOTS, {"l": ("road", ("a", "d", "a"))}, {}).length("l"), (16, 1))

    def test_length_of_marks_at_one_spot(self):
        spots = {"a": spot(3, 3), "b": spot(3, 3)}
        self.assertEqual(Land(spots, {"l": ("shore", ("a", "b"))}, {}).length("l"), (0, 1))

    def test_no_line(self):
        land = Land(SPOTS, LINES, SITES)
        for call in (land.row, land.length):
            for name in ("none", "a", "", "town"):
                refuse(self, NoLine, {"name": name}, call, name)

    def test_loose_with_the_first_such_mark(self):
        land = Land(SPOTS, LINES, SITES)
        for call in (land.row, land.length):
            refuse(self, Loose, {"name": "x"}, call, "beta")
            refuse(self, Loose, {"name": "y"}, call, "alpha")


class Held(unittest.TestCase):
    def test_ends(self):
        self.assertEqual(held({"l": ("road", ("d", "b", "c", "a"))}), ["a", "d"])

    def test_twice_in_one_line(self):
        self.assertEqual(held({"l": ("road", ("a", "b", "c", "b", "d"))}), ["a", "b", "d"])

    def test_in_two_lines(self):
        self.assertEqual(held({"l": ("road", ("a", "b", "c")), "m": ("shore", ("d", "b", "e", "f"))}),
                         ["a", "b", "c", "d", "f"])

    def test_a_closed_line(self):
        self.assertEqual(held({"l": ("border", ("a", "b", "c", "a"))}), ["a"])

    def test_of_a_site(self):
        lines = {"l": ("road", ("a", "b", "c", "d"))}
        self.assertEqual(held(lines, {"s": ("c", 1)}), ["a", "c", "d"])
        self.assertEqual(held({}, {"s": ("h", 1), "t": ("g", 9), "u": ("h", 2)}), ["g", "h"])

    def test_a_site_without_a_spot_holds_nothing(self):
        self.assertEqual(held({}, {"s": ("z", 1)}), [])

    def test_lines_that_are_not_known_hold_nothing(self):
        lines = {"l": ("road", ("a", "b", "c")), "m": ("road", ("e", "b", "z", "b", "d"))}
        self.assertEqual(held(lines), ["a", "c"])
        self.assertEqual(held(lines, {"s": ("d", 1)}), ["a", "c", "d"])

    def test_marks_in_no_line(self):
        self.assertEqual(held({}), [])


class Comparing(unittest.TestCase):
    def test_alike(self):
        other = Land(filled(SPOTS, "edcba"), filled(LINES, ("zoo", "alpha", "coast", "beta")), filled(SITES, ("farm", "town")))
        self.assertTrue(Land(SPOTS, LINES, SITES) == other)
        self.assertFalse(Land(SPOTS, LINES, SITES) != other)

    def test_others(self):
        land = Land(SPOTS, LINES, SITES)
        for other in (Land({}, LINES, SITES), Land(SPOTS, {}, SITES), Land(SPOTS, LINES, {}),
                      Land({**SPOTS, "a": spot(0, 1)}, LINES, SITES), Land(SPOTS, LINES, {**SITES, "town": ("b", 4)}),
                      Land(SPOTS, {**LINES, "zoo": ("shore", ("e", "d"))}, SITES)):
            self.assertFalse(land == other)
            self.assertTrue(land != other)

    def test_things_of_another_kind(self):
        for other in (None, 0, "Land(0 lines, 0 sites)", ({}, {}, {}), {}):
            self.assertFalse(Land({}, {}, {}) == other)
            self.assertTrue(Land({}, {}, {}) != other)

    def test_repr(self):
        self.assertEqual(repr(Land(SPOTS, LINES, SITES)), "Land(4 lines, 2 sites)")
        self.assertEqual(repr(Land({}, {"zoo": LINES["zoo"]}, SITES)), "Land(1 lines, 2 sites)")
        self.assertEqual(repr(Land({}, {}, {})), "Land(0 lines, 0 sites)")


if __name__ == "__main__":
    unittest.main()
