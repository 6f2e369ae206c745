import copy
import itertools
import random
import unittest
from fractions import Fraction

from gromatic.distance import bare
from gromatic.errors import Loose, NoWay
from gromatic.land import Land
from gromatic.scales import Scale
from gromatic.sheet import Sheet
from gromatic.shown import passed, shown
from gromatic.ways import joins, way
from helpers import chance_land, cut_anew, fraction, refuse, spot

PLACES = {name: (10 * at, 0) for at, name in enumerate("abcdef")}


def sheet_of(places, scale, lines, sites=None):
    """A sheet of marks at these pairs of numbers or Fractions."""
    return Sheet(Land({name: spot(*places[name]) for name in places}, lines, sites or {}), scale)


def place_anew(land, one, other):
    """The first road by name and the first place there, either way about."""
    for name in sorted(land.lines()):
        kind, marks = land.lines()[name]
        if kind == "road" and all(mark in land.spots() for mark in marks):
            for at, pair in enumerate(zip(marks, marks[1:])):
                if sorted(pair) == sorted((one, other)):
                    return name, at
    return None


def passed_anew(sheet, ends):
    """The keys of all tiles that have a point of one of these pieces, tried one by one."""
    side = sheet.scaled().side
    most = 130 // side + 2
    ends = [[tuple(map(fraction, end)) for end in pair] for pair in ends]
    keys = []
    for a, b in itertools.product(range(-most, most), repeat=2):
        box = (a * side, b * side, (a + 1) * side, (b + 1) * side)
        if any(cut_anew(start, end, box) for start, end in ends):
            keys.append((a, b))
    return sorted(keys)


def chance_way(chance, land):
    """A list of marks, each joined with the next one, that may go back and forth; or of one mark, or of none."""
    near = {name: [] for name in land.spots()}
    for one, other in joins(land):
        near[one].append(other)
        near[other].append(one)
    marks = [chance.choice(sorted(near))][:chance.randint(0, 9)]
    while marks and near[marks[-1]] and len(marks) < chance.randint(2, 9):
        marks.append(chance.choice(near[marks[-1]]))
    return marks


class Shown(unittest.TestCase):
    def test_pieces_of_a_trace(self):
        sheet = sheet_of({"a": (0, 0), "b": (20, 0), "c": (20, 30)}, Scale(10), {"l": ("road", ("a", "b", "c"))})
        self.assertEqual(shown(sheet, ["a", "b", "c"]),
                         [("l", 0, spot(0, 0), spot(2, 0)), ("l", 1, spot(2, 0), spot(2, 3))])
        self.assertEqual(shown(sheet, ["c", "b", "a"]),
                         [("l", 1, spot(2, 3), spot(2, 0)), ("l", 0, spot(2, 0), spot(0, 0))])
        self.assertEqual(shown(marks=["b", "a", "b"], sheet=sheet),
                         [("l", 0, spot(2, 0), spot(0, 0)), ("l", 0, spot(0, 0), spot(2, 0))])

    def test_left_out_corners(self):
        sheet = sheet_of(PLACES, Scale(4), {"l": ("road", tuple("abcdef"))}, {"s": ("d", 1)})
        self.assertEqual(sheet.traces()["l"], [(0, (0, 0)), (3, (8, 0)), (5, (13, 0))])
        third = Fraction(8, 3)
        self.assertEqual(shown(sheet, list("abcdef")), [
            ("l", 0, spot(0, 0), spot(third, 0)), ("l", 0, spot(third, 0), spot(2 * third, 0)),
            ("l", 0, spot(2 * third, 0), spot(8, 0)), ("l", 1, spot(8, 0), spot(Fraction(21, 2), 0)),
            ("l", 1, spot(Fraction(21, 2), 0), spot(13, 0))])
        self.assertEqual(shown(sheet, ["e", "d", "c"]),
                         [("l", 1, spot(Fraction(21, 2), 0), spot(8, 0)), ("l", 0, spot(8, 0), spot(2 * third, 0))])

    def test_one_mark_and_none(self):
        sheet = sheet_of(PLACES, Scale(4), {"l": ("road", ("a", "b"))})
        for marks in ([], ["a"], ["f"]):
            self.assertEqual(shown(sheet, marks), [])

    def test_the_first_road_by_name(self):
        lines = {"m": ("road", ("a", "b")), "l": ("road", ("c", "b", "a")), "k": ("shore", ("a", "b")),
                 "j": ("road", ("a", "b", "lost"))}
        sheet = sheet_of(PLACES, Scale(10), lines)
        self.assertEqual(shown(sheet, ["a", "b"]), [("l", 1, spot(0, 0), spot(1, 0))])
        self.assertEqual(shown(sheet, ["b", "c"]), [("l", 0, spot(1, 0), spot(2, 0))])

    def test_the_first_place_there(self):
        sheet = sheet_of(PLACES, Scale(10), {"l": ("road", ("c", "b", "a", "f", "a", "b"))})
        self.assertEqual([number for number, pair in sheet.traces()["l"]], [0, 1, 2, 3, 4, 5])
        self.assertEqual(shown(sheet, ["a", "b"]), [("l", 1, spot(0, 0), spot(1, 0))])
        self.assertEqual(shown(sheet, ["b", "a"]), [("l", 1, spot(1, 0), spot(0, 0))])
        self.assertEqual(shown(sheet, ["a", "f"]), [("l", 2, spot(0, 0), spot(5, 0))])
        self.assertEqual(shown(sheet, ["f", "a"]), [("l", 2, spot(5, 0), spot(0, 0))])

    def test_loose_ahead_of_no_way(self):
        lines = {"l": ("road", ("a", "b")), "m": ("road", ("b", "lost")), "n": ("shore", ("c", "d"))}
        sheet = sheet_of(PLACES, Scale(4), lines)
        for call in (shown, passed):
            refuse(self, Loose, {"name": "lost"}, call, sheet, ["a", "b", "lost"])
            refuse(self, Loose, {"name": "none"}, call, sheet, ["a", "c", "none", "lost"])
            refuse(self, Loose, {"name": "lost"}, call, sheet, ["lost"])
            refuse(self, Loose, {"name": "l"}, call, sheet, ["f", "a", "l"])
            refuse(self, Loose, {"name": ""}, call, sheet, [""])
            for marks in ("ac", "abaa", "aa", "cd", "bad", "ff"):
                refuse(self, NoWay, {"side": []}, call, sheet, list(marks))

    def test_as_told_anew(self):
        chance = random.Random(35)
        many, inner = 0, 0
        for turn in range(150):
            land = chance_land(chance)
            sheet = Sheet(land, Scale(chance.randint(1, 9), tolerance=chance.choice((0, 20, 100)), side=chance.randint(8, 64)))
            marks = chance_way(chance, land)
            told = shown(sheet, marks)
            self.assertEqual(len(told), max(len(marks) - 1, 0))
            for at, (name, number, start, end) in enumerate(told):
                road, place = place_anew(land, marks[at], marks[at + 1])
                numbers = [corner for corner, pair in sheet.traces()[road]]
                self.assertEqual((name, number), (road, max(k for k, corner in enumerate(numbers) if corner <= place)))
                places = [place, place + 1]
                if land.lines()[road][1][place] != marks[at]:
                    places.reverse()
                self.assertEqual([start, end], [sheet.image(road, corner) for corner in places])
                piece = [spot(*pair) for corner, pair in sheet.traces()[road][number:number + 2]]
                self.assertIs(bare([start, end], piece, (0, 1)), None)
                if at:
                    self.assertEqual(start, told[at - 1][3])
                many += 1
                inner += place not in numbers or place + 1 not in numbers
            ends = [piece[2:] for piece in told]
            if len(marks) == 1:
                ends = [[spot(*sheet.pairs()[marks[0]])] * 2]
            if turn % 5 == 0:
                self.assertEqual(passed(sheet, marks), passed_anew(sheet, ends))
        self.assertGreater(many, 100)
        self.assertGreater(inner, 15)

    def test_of_a_told_way(self):
        sheet = sheet_of(PLACES, Scale(10), {"l": ("road", ("a", "b", "c")), "m": ("road", ("f", "c"))})
        marks = way(sheet.land(), "a", "f")[1]
        self.assertEqual([piece[:2] for piece in shown(sheet, marks)], [("l", 0), ("l", 0), ("m", 0)])


class Passed(unittest.TestCase):
    def test_ways_of_several_marks(self):
        sheet = sheet_of({"a": (1, 1), "b": (20, 1), "c": (20, -1)}, Scale(1, side=8), {"l": ("road", ("a", "b", "c"))})
        self.assertEqual(passed(sheet, ["a", "b"]), [(0, 0), (1, 0), (2, 0)])
        self.assertEqual(passed(sheet, ["a", "b", "c"]), [(0, 0), (1, 0), (2, -1), (2, 0)])
        self.assertEqual(passed(marks=["c", "b", "a", "b"], sheet=sheet), [(0, 0), (1, 0), (2, -1), (2, 0)])

    def test_rims(self):
        sheet = sheet_of({"a": (1, 1), "b": (8, 1), "c": (1, 0), "d": (8, 8)}, Scale(1, side=8),
                         {"l": ("road", ("a", "b")), "m": ("road", ("c", "d"))})
        self.assertEqual(passed(sheet, ["a", "b"]), [(0, 0), (1, 0)])
        self.assertEqual(passed(sheet, ["d", "c"]), [(0, -1), (0, 0), (0, 1), (1, 0), (1, 1)])

    def test_only_the_part_between_the_images(self):
        sheet = sheet_of(PLACES, Scale(1, side=8), {"l": ("road", tuple("abcdef"))})
        self.assertEqual(sheet.traces()["l"], [(0, (0, 0)), (5, (50, 0))])
        self.assertEqual(passed(sheet, ["b", "c"]), [(1, -1), (1, 0), (2, -1), (2, 0)])

    def test_one_mark(self):
        sheet = sheet_of({"a": (3, 3), "b": (-8, 3), "c": (16, -16), "d": (-5, -5)}, Scale(1, side=8), {})
        self.assertEqual(passed(sheet, ["a"]), [(0, 0)])
        self.assertEqual(passed(sheet, ["b"]), [(-2, 0), (-1, 0)])
        self.assertEqual(passed(sheet, ["c"]), [(1, -3), (1, -2), (2, -3), (2, -2)])
        self.assertEqual(passed(sheet, ["d"]), [(-1, -1)])

    def test_one_mark_lies_at_its_drawn_pair(self):
        # Its image on the road, where it is left out, lies in another tile.
        sheet = sheet_of({"a": (0, 3), "b": (10, 13), "c": (40, 3)}, Scale(1, side=8, tolerance=10), {"l": ("road", ("a", "b", "c"))})
        self.assertEqual(sheet.image("l", 1), spot(10, 3))
        self.assertEqual(passed(sheet, ["b"]), [(1, 1)])

    def test_none(self):
        self.assertEqual(passed(sheet_of(PLACES, Scale(4), {}), []), [])


class Copies(unittest.TestCase):
    def test_what_is_handed_in_stays_as_it_was(self):
        sheet = sheet_of(PLACES, Scale(4), {"l": ("road", tuple("abcdef"))})
        marks = ["a", "b", "c"]
        before = (copy.deepcopy(shown(sheet, marks)), passed(sheet, marks), sheet.traces(), sheet.pairs(), len(sheet))
        shown(sheet, marks).clear()
        passed(sheet, marks).clear()
        self.assertEqual(marks, ["a", "b", "c"])
        self.assertEqual((shown(sheet, marks), passed(sheet, marks), sheet.traces(), sheet.pairs(), len(sheet)), before)

    def test_the_side_of_no_way_is_its_catchers(self):
        sheet = sheet_of(PLACES, Scale(4), {})
        for turn in range(2):
            with self.assertRaises(NoWay) as caught:
                shown(sheet, ["a", "b"])
            self.assertEqual(caught.exception.side, [])
            caught.exception.side.append("a")


if __name__ == "__main__":
    unittest.main()
