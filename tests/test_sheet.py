import copy
import itertools
import random
import unittest
from fractions import Fraction

from gromatic.corners import kept
from gromatic.distance import bare
from gromatic.errors import Loose, NoCorner, NoLine, TooFar
from gromatic.land import Land
from gromatic.lettering import lettered
from gromatic.ratios import order
from gromatic.scales import Scale, drawn
from gromatic.sheet import REACH, Sheet
from helpers import as_ratio, chance_land, cut_anew, filled, fraction, is_in, refuse, spot

HALF = Fraction(1, 2)
TINY = Fraction(1, 10 ** 12)


def sheet_of(places, scale, lines=None, sites=None):
    """A sheet of marks at these pairs of numbers or Fractions."""
    return Sheet(Land({name: spot(*places[name]) for name in places}, lines or {}, sites or {}), scale)


def road_of(pairs, scale):
    """A sheet of one road over marks at these pairs."""
    names = "abcdefgh"[:len(pairs)]
    return sheet_of(dict(zip(names, pairs)), scale, {"road": ("road", tuple(names))})


def chance_sheet(chance):
    """A sheet of a land of chance."""
    scale = Scale(chance.randint(1, 9), tolerance=chance.choice((0, 5, 30, 100)), letter=chance.randint(1, 9),
                  side=chance.choice((8, 11, 16, 64)))
    return Sheet(chance_land(chance), scale)


def tile_anew(sheet, key):
    """A tile, sentence by sentence."""
    side = sheet.scaled().side
    box = (key[0] * side, key[1] * side, key[0] * side + side, key[1] * side + side)
    pieces = []
    for name, trace in sorted(sheet.traces().items()):
        for number in range(len(trace) - 1):
            part = cut_anew(trace[number][1], trace[number + 1][1], box)
            if part:
                pieces.append((name, number, *part))
    told = sheet.names()
    sites = sheet.land().sites()
    stands = [(name, sheet.pairs()[sites[name][0]]) for name in sorted(told) if told[name][0] != "under"]
    laid = [(name, told[name][2]) for name in sorted(told) if told[name][0] == "laid"]
    return (pieces, [(name, pair) for name, pair in stands if is_in(pair, box)],
            [(name, (left, low, right, top)) for name, (left, low, right, top) in laid
             if max(left, box[0]) < min(right, box[2]) and max(low, box[1]) < min(top, box[3])])


class Making(unittest.TestCase):
    def test_reach(self):
        self.assertEqual(REACH, 120)

    def test_drawn_at_reach(self):
        for step in (1, 2, 7):
            for number in (120, -120, 120 + HALF - TINY, -120 - HALF):
                for place in ((number * step, 0), (0, number * step), (number * step, number * step)):
                    pair = sheet_of({"a": place}, Scale(step)).pairs()["a"]
                    self.assertEqual(max(map(abs, pair)), 120)

    def test_drawn_just_beyond(self):
        for step in (1, 2, 7):
            for number in (121, -121, 120 + HALF, -120 - HALF - TINY, 10 ** 20, -10 ** 20):
                for place in ((number * step, 0), (0, number * step), (number * step, -number * step)):
                    refuse(self, TooFar, {"name": "a", "grid": None}, sheet_of, {"a": place}, Scale(step))

    def test_the_first_such_mark_by_rising_names(self):
        places = {"d": (0, 0), "c": (0, -500), "b": (500, 0), "a": (120, -120)}
        for names in itertools.permutations(places):
            refuse(self, TooFar, {"name": "b", "grid": None}, sheet_of, filled(places, names), Scale(1))
        self.assertEqual(sheet_of(places, Scale(5)).pairs(), {"a": (24, -24), "b": (100, 0), "c": (0, -100), "d": (0, 0)})

    def test_marks_that_stand_in_nothing_count(self):
        refuse(self, TooFar, {"name": "x", "grid": None}, sheet_of, {"x": (999, 0), "a": (0, 0), "b": (1, 0)}, Scale(1),
               {"l": ("road", ("a", "b"))})

    def test_told(self):
        land = Land({"a": spot(9, -9), "b": spot(Fraction(5, 2), 3)}, {"l": ("road", ("a", "z"))}, {"s": ("b", 1)})
        sheet = Sheet(scale=Scale(4, letter=2), land=land)
        self.assertEqual(sheet.land(), land)
        self.assertEqual(sheet.scaled(), Scale(4, letter=2))
        self.assertEqual(sheet.pairs(), {"a": (2, -2), "b": (1, 1)})
        self.assertEqual(sheet.traces(), {})

    def test_empty(self):
        sheet = sheet_of({}, Scale(4))
        self.assertEqual((sheet.pairs(), sheet.traces(), sheet.names(), sheet.tiles()), ({}, {}, {}, []))
        self.assertEqual((len(sheet), repr(sheet), sheet.tile((0, 0))), (0, "Sheet(0 tiles)", ([], [], [])))


class Traces(unittest.TestCase):
    def test_corners_left_out(self):
        sheet = road_of([(0, 0), (10, 3), (20, 0), (20, 30), (23, 40), (20, 50)], Scale(5, tolerance=3))
        self.assertEqual(sheet.traces(), {"road": [(0, (0, 0)), (2, (4, 0)), (5, (4, 10))]})
        sheet = road_of([(0, 0), (10, 3), (20, 0), (20, 30), (23, 40), (20, 50)], Scale(5, tolerance=2))
        self.assertEqual([number for number, pair in sheet.traces()["road"]], [0, 1, 2, 3, 4, 5])

    def test_held_in_the_middle(self):
        places = {name: (10 * at, 0) for at, name in enumerate("abcdef")}
        lines = {"l": ("road", tuple("abcdef"))}
        scale = Scale(10, tolerance=9)
        self.assertEqual(sheet_of(places, scale, lines).traces(), {"l": [(0, (0, 0)), (5, (5, 0))]})
        self.assertEqual(sheet_of(places, scale, lines, {"s": ("c", 1)}).traces(),
                         {"l": [(0, (0, 0)), (2, (2, 0)), (5, (5, 0))]})
        other = {**lines, "m": ("shore", ("d", "f"))}
        self.assertEqual(sheet_of(places, scale, other).traces(),
                         {"l": [(0, (0, 0)), (3, (3, 0)), (5, (5, 0))], "m": [(0, (3, 0)), (1, (5, 0))]})
        unknown = {**lines, "m": ("shore", ("d", "z"))}
        self.assertEqual(sheet_of(places, scale, unknown).traces(), {"l": [(0, (0, 0)), (5, (5, 0))]})

    def test_a_held_mark_that_stands_twice(self):
        places = {"a": (0, 0), "b": (10, 0), "c": (20, 0), "d": (40, 0)}
        sheet = sheet_of(places, Scale(10), {"l": ("road", ("a", "b", "c", "b", "d"))})
        self.assertEqual([number for number, pair in sheet.traces()["l"]], [0, 1, 2, 3, 4])
        sheet = sheet_of(places, Scale(10, tolerance=1), {"l": ("road", ("a", "b", "d", "c", "b"))})
        self.assertEqual(sheet.traces()["l"], [(0, (0, 0)), (1, (1, 0)), (2, (4, 0)), (4, (1, 0))])

    def test_alike_spots_next_to_one_another(self):
        sheet = road_of([(0, 0), (7, 7), (7, 7), (14, 14)], Scale(7))
        self.assertEqual(sheet.traces(), {"road": [(0, (0, 0)), (3, (2, 2))]})
        sheet = road_of([(0, 0), (0, 0)], Scale(7))
        self.assertEqual(sheet.traces(), {"road": [(0, (0, 0)), (1, (0, 0))]})
        sheet = road_of([(0, 0), (30, 0), (30, 0), (30, 30)], Scale(7))
        self.assertEqual([number for number, pair in sheet.traces()["road"]], [0, 1, 3])

    def test_only_known_lines(self):
        sheet = sheet_of({"a": (0, 0), "b": (9, 9)}, Scale(3),
                         {"l": ("road", ("a", "z")), "m": ("border", ("b", "a")), "n": ("shore", ("z", "b"))})
        self.assertEqual(sheet.traces(), {"m": [(0, (3, 3)), (1, (0, 0))]})

    def test_as_kept_tells(self):
        chance = random.Random(21)
        left_out = 0
        for turn in range(60):
            sheet = chance_sheet(chance)
            land, scale, traces = sheet.land(), sheet.scaled(), sheet.traces()
            self.assertEqual(list(sorted(traces)), land.known())
            for name in traces:
                marks = land.lines()[name][1]
                held = [at for at in range(len(marks)) if marks[at] in land.held()]
                numbers = kept(land.row(name), scale.tolerance, held=held)
                left_out += len(marks) > len(numbers)
                self.assertEqual(traces[name], [(at, drawn(land.spots()[marks[at]], scale.step)) for at in numbers])
        self.assertGreater(left_out, 15)


class Image(unittest.TestCase):
    def test_of_kept_corners(self):
        sheet = road_of([(1, -1), (9, 9), (-20, 1)], Scale(4))
        self.assertEqual([sheet.image("road", at) for at in range(3)], [spot(0, 0), spot(2, 2), spot(-5, 0)])

    def test_of_left_out_corners(self):
        for off in (3, 0, -3):
            sheet = road_of([(0, 0), (10, off), (15, -off), (41, 0)], Scale(4, tolerance=3))
            self.assertEqual(sheet.traces()["road"], [(0, (0, 0)), (3, (10, 0))])
            self.assertEqual(sheet.image("road", 1), spot(Fraction(100, 41), 0))
            self.assertEqual(sheet.image("road", 2), spot(Fraction(150, 41), 0))

    def test_by_the_longer_way(self):
        sheet = road_of([(0, 0), (2, 10), (8, 40)], Scale(4, tolerance=3))
        self.assertEqual(sheet.image("road", 1), spot(HALF, Fraction(5, 2)))
        sheet = road_of([(8, 40), (5, 10), (0, 0)], Scale(4, tolerance=3))
        self.assertEqual(sheet.image("road", 1), spot(HALF, Fraction(5, 2)))
        # Both ways are as long: x tells the share.
        sheet = road_of([(0, 0), (10, 13), (40, 40)], Scale(4, tolerance=3))
        self.assertEqual(sheet.image("road", 1), spot(Fraction(5, 2), Fraction(5, 2)))
        sheet = road_of([(0, 0), (-10, 13), (-40, 40)], Scale(4, tolerance=3))
        self.assertEqual(sheet.image("road", 1), spot(-Fraction(5, 2), Fraction(5, 2)))

    def test_the_spots_tell_the_longer_way_not_the_pairs(self):
        # The spots are apart by 19 and 18, their pairs by 2 and 2; the share is 9 of 19.
        sheet = road_of([(0, 0), (9, 9), (19, 18)], Scale(10, tolerance=3))
        self.assertEqual(sheet.traces()["road"], [(0, (0, 0)), (2, (2, 2))])
        self.assertEqual(sheet.image("road", 1), spot(Fraction(18, 19), Fraction(18, 19)))

    def test_where_both_ends_are_one_spot(self):
        sheet = road_of([(8, 8), (8, 11), (8, 8)], Scale(4, tolerance=3))
        self.assertEqual(sheet.traces()["road"], [(0, (2, 2)), (2, (2, 2))])
        self.assertEqual([sheet.image("road", at) for at in range(3)], [spot(2, 2)] * 3)

    def test_where_both_ends_are_one_pair(self):
        sheet = road_of([(7, 8), (8, 9), (9, 8)], Scale(4, tolerance=3))
        self.assertEqual(sheet.traces()["road"], [(0, (2, 2)), (2, (2, 2))])
        self.assertEqual(sheet.image("road", 1), spot(2, 2))

    def test_between_the_kept_ones_round_it(self):
        sheet = road_of([(0, 0), (10, 1), (20, 0), (20, 10), (21, 20), (20, 40)], Scale(10, tolerance=1))
        self.assertEqual(sheet.traces()["road"], [(0, (0, 0)), (2, (2, 0)), (5, (2, 4))])
        self.assertEqual([sheet.image("road", at) for at in range(6)],
                         [spot(0, 0), spot(1, 0), spot(2, 0), spot(2, 1), spot(2, 2), spot(2, 4)])

    def test_refused(self):
        sheet = sheet_of({"a": (0, 0), "b": (9, 9)}, Scale(3), {"l": ("road", ("a", "b")), "m": ("road", ("a", "z", "y"))})
        for number in (0, 1, 2, -1, 99, True, False):
            refuse(self, NoLine, {"name": "none"}, sheet.image, "none", number)
            refuse(self, NoLine, {"name": "a"}, sheet.image, "a", number)
            refuse(self, Loose, {"name": "z"}, sheet.image, "m", number)
        for number in (-1, -2, 2, 3, 10 ** 29, -10 ** 29, True, False):
            refuse(self, NoCorner, {"number": number}, sheet.image, "l", number)
        self.assertEqual(sheet.image(number=1, name="l"), spot(3, 3))


class Slack(unittest.TestCase):
    def test_nothing_left_out(self):
        self.assertEqual(road_of([(0, 0), (8, 8)], Scale(4)).slack_of("road"), ((0, 1), (0, 1), (0, 1)))
        self.assertEqual(road_of([(1, 0), (8, 10)], Scale(4)).slack_of("road"), ((2, 1), (0, 1), (2, 1)))
        self.assertEqual(road_of([(1, 0), (Fraction(20, 3), 8)], Scale(4)).slack_of("road"), ((4, 3), (0, 1), (4, 3)))

    def test_left_out_ones(self):
        sheet = road_of([(1, 0), (10, 2), (16, -3), (41, 0)], Scale(4, tolerance=3))
        self.assertEqual(sheet.slack_of("road"), ((1, 1), (3, 1), (4, 1)))
        sheet = road_of([(0, 1), (2, 10), (-3, 16), (0, 41)], Scale(4, tolerance=3))
        self.assertEqual(sheet.slack_of("road"), ((1, 1), (3, 1), (4, 1)))
        sheet = road_of([(0, 0), (3, 2), (8, 4)], Scale(4, tolerance=3))
        self.assertEqual(sheet.slack_of("road"), ((0, 1), (1, 2), (1, 2)))

    def test_only_kept_corners_are_moved(self):
        # The left out corner would lie two units off its drawn pair.
        sheet = road_of([(0, 0), (10, 0), (40, 0)], Scale(4))
        self.assertEqual(sheet.slack_of("road"), ((0, 1), (0, 1), (0, 1)))

    def test_both_ends_one_spot(self):
        self.assertEqual(road_of([(8, 8), (8, 11), (8, 8)], Scale(4, tolerance=3)).slack_of("road"), ((0, 1), (3, 1), (3, 1)))

    def test_refused(self):
        sheet = sheet_of({"a": (0, 0), "b": (9, 9)}, Scale(3), {"l": ("road", ("a", "b")), "m": ("road", ("a", "z", "y"))})
        refuse(self, NoLine, {"name": "none"}, sheet.slack_of, "none")
        refuse(self, Loose, {"name": "z"}, sheet.slack_of, "m")
        self.assertEqual(sheet.slack_of(name="l"), ((0, 1), (0, 1), (0, 1)))

    def test_within_the_slack_of_the_scale(self):
        chance = random.Random(23)
        left_out = 0
        for turn in range(60):
            sheet = chance_sheet(chance)
            step, slack = sheet.scaled().step, sheet.scaled().slack()
            for name, trace in sheet.traces().items():
                row = sheet.land().row(name)
                shown = [spot(i * step, j * step) for number, (i, j) in trace]
                moved, off, both = sheet.slack_of(name)
                self.assertEqual(fraction(both), fraction(moved) + fraction(off))
                self.assertLessEqual(order(both, slack), 0)
                self.assertIs(bare(shown, row, both), None)
                self.assertIs(bare(row, shown, both), None)
                left_out += off != (0, 1)
                for number in range(len(row)):
                    x, y = [as_ratio(fraction(each) * step) for each in sheet.image(name, number)]
                    self.assertIs(bare([(x, y)], [row[number]], both), None)
                    self.assertIs(bare([(x, y)], shown, (0, 1)), None)
                self.assertEqual(fraction(moved), max(max(abs(fraction(a) - fraction(b)) for a, b in zip(row[at], here))
                                                      for (at, pair), here in zip(trace, shown)))
        self.assertGreater(left_out, 15)


class Names(unittest.TestCase):
    def test_lettered_of_the_known_sites(self):
        sheet = sheet_of({"a": (0, 0), "b": (12, 1), "c": (1, 1)}, Scale(4, letter=2), {},
                         {"mill": ("a", 5), "inn": ("b", 1), "well": ("c", 5), "none": ("z", 1)})
        self.assertEqual(sheet.names(), {"inn": ("laid", "ne", (3, 0, 9, 2)), "mill": ("laid", "nw", (-8, 0, 0, 2)),
                                         "well": ("under", "mill")})

    def test_barred(self):
        places = {"m": (0, 0), "a": (1, 1), "b": (-1, 1), "c": (1, -1), "d": (-1, -1)}
        sheet = sheet_of(places, Scale(1), {}, {name: (name, 1 + (name != "m")) for name in places})
        self.assertEqual(sheet.names()["m"], ("barred", [("site", "a"), ("site", "b"), ("site", "c"), ("site", "d")]))

    def test_as_lettered_tells(self):
        chance = random.Random(24)
        for turn in range(40):
            sheet = chance_sheet(chance)
            sites = sheet.land().sites()
            known = {name: (sheet.pairs()[mark], rank) for name, (mark, rank) in sites.items() if mark in sheet.pairs()}
            self.assertEqual(sheet.names(), lettered(known, sheet.scaled().letter))


class Tiles(unittest.TestCase):
    def test_within_one_tile(self):
        sheet = road_of([(1, 1), (5, 3)], Scale(1, side=8))
        self.assertEqual(sheet.tiles(), [(0, 0)])
        self.assertEqual(sheet.tile((0, 0)), ([("road", 0, spot(1, 1), spot(5, 3))], [], []))

    def test_across_nought(self):
        sheet = road_of([(-4, -2), (4, 2)], Scale(1, side=8))
        self.assertEqual(sheet.tiles(), [(-1, -1), (-1, 0), (0, -1), (0, 0)])
        self.assertEqual(sheet.tile((-1, -1)), ([("road", 0, spot(-4, -2), spot(0, 0))], [], []))
        self.assertEqual(sheet.tile((-1, 0)), ([("road", 0, spot(0, 0), spot(0, 0))], [], []))
        self.assertEqual(sheet.tile((0, -1)), ([("road", 0, spot(0, 0), spot(0, 0))], [], []))
        self.assertEqual(sheet.tile(key=(0, 0)), ([("road", 0, spot(0, 0), spot(4, 2))], [], []))

    def test_along_a_rim(self):
        sheet = road_of([(8, 1), (8, 7)], Scale(1, side=8))
        self.assertEqual(sheet.tiles(), [(0, 0), (1, 0)])
        for key in sheet.tiles():
            self.assertEqual(sheet.tile(key), ([("road", 0, spot(8, 1), spot(8, 7))], [], []))
        sheet = road_of([(1, -8), (7, -8)], Scale(1, side=8))
        self.assertEqual(sheet.tiles(), [(0, -2), (0, -1)])

    def test_pieces_by_name_then_number(self):
        places = {"a": (1, 1), "b": (5, 1), "c": (5, 5)}
        sheet = sheet_of(places, Scale(1, side=8), {"zoo": ("shore", ("a", "b", "c")), "bay": ("road", ("c", "a", "b"))})
        self.assertEqual([piece[:2] for piece in sheet.tile((0, 0))[0]], [("bay", 0), ("bay", 1), ("zoo", 0), ("zoo", 1)])

    def test_the_numbers_of_pieces_are_those_of_the_trace(self):
        sheet = road_of([(0, 1), (3, 1), (6, 1), (6, 6)], Scale(1, side=8))
        self.assertEqual(sheet.traces()["road"], [(0, (0, 1)), (2, (6, 1)), (3, (6, 6))])
        self.assertEqual(sheet.tile((0, 0))[0], [("road", 0, spot(0, 1), spot(6, 1)), ("road", 1, spot(6, 1), spot(6, 6))])

    def test_a_piece_without_length(self):
        sheet = road_of([(3, 3), (3, 3)], Scale(1, side=8))
        self.assertEqual(sheet.tile((0, 0))[0], [("road", 0, spot(3, 3), spot(3, 3))])
        self.assertEqual(sheet.tiles(), [(0, 0)])
        sheet = road_of([(0, 8), (0, 8)], Scale(1, side=8))
        self.assertEqual(sheet.tiles(), [(-1, 0), (-1, 1), (0, 0), (0, 1)])

    def test_sites_on_rims(self):
        # The name is barred by nothing; its box (8, 8, 9, 9) lies in one tile alone.
        sheet = sheet_of({"a": (8, 8)}, Scale(1, side=8), {}, {"s": ("a", 1)})
        self.assertEqual(sheet.tiles(), [(0, 0), (0, 1), (1, 0), (1, 1)])
        for key in sheet.tiles():
            names = [("s", (8, 8, 9, 9))] if key == (1, 1) else []
            self.assertEqual(sheet.tile(key), ([], [("s", (8, 8))], names))

    def test_names_over_several_tiles(self):
        sheet = sheet_of({"a": (-6, 3)}, Scale(1, side=8, letter=5), {}, {"farm": ("a", 1)})
        box = (-6, 3, 14, 8)
        # The box reaches the rim at 8 from below, and no farther.
        self.assertEqual(sheet.tiles(), [(-1, 0), (0, 0), (1, 0)])
        self.assertEqual([sheet.tile((a, 0)) for a in (-1, 0, 1)],
                         [([], [("farm", (-6, 3))], [("farm", box)]), ([], [], [("farm", box)]), ([], [], [("farm", box)])])

    def test_standing_sites_by_name(self):
        sheet = sheet_of({"a": (1, 1), "b": (6, 6), "c": (1, 1)}, Scale(1, side=8), {},
                         {"zoo": ("a", 1), "inn": ("b", 9), "ford": ("c", 2), "none": ("z", 1)})
        pieces, sites, names = sheet.tile((0, 0))
        self.assertEqual(sites, [("inn", (6, 6)), ("zoo", (1, 1))])
        self.assertEqual(names, [("inn", (6, 6, 9, 7)), ("zoo", (1, 1, 4, 2))])

    def test_barred_names_are_not_in_tiles_their_sites_are(self):
        places = {"m": (4, 4), "a": (5, 5), "b": (3, 5), "c": (5, 3), "d": (3, 3)}
        sheet = sheet_of(places, Scale(1, side=8), {}, {name: (name, 1 + (name != "m")) for name in places})
        pieces, sites, names = sheet.tile((0, 0))
        self.assertEqual([name for name, pair in sites], ["a", "b", "c", "d", "m"])
        self.assertEqual([name for name, box in names], ["a", "b", "c", "d"])

    def test_with_nothing(self):
        sheet = road_of([(1, 1), (5, 3)], Scale(1, side=8))
        for key in ((1, 0), (-1, 0), (99, -99), (10 ** 29, 0)):
            self.assertEqual(sheet.tile(key), ([], [], []))
            self.assertIs(type(sheet.tile(key)), tuple)

    def test_all_tiles_as_told_anew(self):
        chance = random.Random(29)
        for turn in range(25):
            sheet = chance_sheet(chance)
            keys = []
            for key in itertools.product(range(-24, 25), repeat=2):
                if max(map(abs, key)) * sheet.scaled().side > 200:
                    continue
                tile = tile_anew(sheet, key)
                self.assertEqual(sheet.tile(key), tile)
                if tile != ([], [], []):
                    keys.append(key)
            self.assertEqual(sheet.tiles(), sorted(keys))
            self.assertEqual((len(sheet), repr(sheet)), (len(keys), f"Sheet({len(keys)} tiles)"))

    def test_common_rims_and_whole_pieces(self):
        chance = random.Random(30)
        for turn in range(15):
            sheet = chance_sheet(chance)
            for name, trace in sheet.traces().items():
                for number in range(len(trace) - 1):
                    self.check_piece(sheet, name, number, trace[number][1], trace[number + 1][1])

    def check_piece(self, sheet, name, number, one, other):
        """The parts in all tiles, put together, are the piece; on the rim of each tile the next one has the same."""
        side = sheet.scaled().side
        parts = {key: piece[2:] for key in sheet.tiles() for piece in sheet.tile(key)[0] if piece[:2] == (name, number)}
        ends = sorted({tuple(map(fraction, end)) for part in parts.values() for end in part}, reverse=one > other)
        self.assertEqual((ends[0], ends[-1]), (one, other))
        long = {tuple(tuple(map(fraction, end)) for end in part) for part in parts.values() if part[0] != part[1]}
        self.assertEqual(sorted(long, reverse=one > other), list(zip(ends, ends[1:])))
        for (a, b), part in parts.items():
            for end in part:
                if fraction(end[0]) == (a + 1) * side:
                    self.assertIn(end, parts[(a + 1, b)])
                if fraction(end[1]) == b * side:
                    self.assertIn(end, parts[(a, b - 1)])


class Comparing(unittest.TestCase):
    PLACES = {"a": (1, 1), "b": (5, 3), "c": (0, 9)}
    LINES = {"l": ("road", ("a", "b"))}
    SITES = {"s": ("c", 1)}
    SCALE = Scale(1, side=8)

    def is_like(self, truth, one, other):
        self.assertIs(one == other, truth)
        self.assertIs(one != other, not truth)

    def test_alike(self):
        sheet = sheet_of(self.PLACES, self.SCALE, self.LINES, self.SITES)
        self.is_like(True, sheet, sheet_of(self.PLACES, Scale(1, side=8), self.LINES, self.SITES))

    def test_another_land_with_the_same_tiles(self):
        sheet = sheet_of(self.PLACES, self.SCALE, self.LINES, self.SITES)
        third = Fraction(1, 3)
        moved = {name: (x + third, y - third) for name, (x, y) in self.PLACES.items()}
        self.is_like(True, sheet, sheet_of(moved, self.SCALE, self.LINES, self.SITES))
        self.is_like(True, sheet, sheet_of({**self.PLACES, "d": (9, 9)}, self.SCALE, {"l": ("shore", ("a", "b"))},
                                           {"s": ("c", 9), "t": ("z", 1)}))

    def test_another_scale_with_the_same_tiles(self):
        sheet = sheet_of({}, self.SCALE)
        self.is_like(True, sheet, sheet_of({"a": (1, 1)}, Scale(1, side=8)))
        for scale in (Scale(2, side=8), Scale(1, side=9), Scale(1, side=8, tolerance=1), Scale(1, side=8, letter=2)):
            self.is_like(False, sheet, sheet_of({}, scale))
        lined = sheet_of(self.PLACES, self.SCALE, self.LINES)
        self.is_like(False, lined, sheet_of(self.PLACES, Scale(1, side=8, tolerance=1), self.LINES))

    def test_other_tiles(self):
        sheet = sheet_of(self.PLACES, self.SCALE, self.LINES, self.SITES)
        for other in (sheet_of({**self.PLACES, "a": (2, 1)}, self.SCALE, self.LINES, self.SITES),
                      sheet_of(self.PLACES, self.SCALE, {"m": self.LINES["l"]}, self.SITES),
                      sheet_of(self.PLACES, self.SCALE, {"l": ("road", ("b", "a"))}, self.SITES),
                      sheet_of(self.PLACES, self.SCALE, self.LINES, {"t": ("c", 1)}),
                      sheet_of(self.PLACES, self.SCALE, self.LINES), sheet_of(self.PLACES, self.SCALE, {}, self.SITES),
                      sheet_of({}, self.SCALE)):
            self.is_like(False, sheet, other)

    def test_things_of_another_kind(self):
        sheet = sheet_of(self.PLACES, self.SCALE, self.LINES, self.SITES)
        for other in (None, 0, len(sheet), repr(sheet), sheet.scaled(), sheet.land(), sheet.tiles(), {}):
            self.is_like(False, sheet, other)
        for other in (None, 0, [], {}, ()):
            self.is_like(False, sheet_of({}, self.SCALE), other)

    def test_len_and_repr(self):
        sheet = sheet_of(self.PLACES, self.SCALE, self.LINES, self.SITES)
        self.assertEqual(sheet.tiles(), [(-1, 1), (0, 0), (0, 1)])
        self.assertEqual((len(sheet), repr(sheet)), (3, "Sheet(3 tiles)"))


class Copies(unittest.TestCase):
    def all_of(self, sheet):
        return (sheet.pairs(), sheet.traces(), sheet.names(), sheet.tiles(), [sheet.tile(key) for key in sheet.tiles()],
                sheet.land().spots(), sheet.land().lines(), sheet.land().sites(), str(sheet.scaled()), len(sheet))

    def test_what_was_told_may_be_changed(self):
        places = {"m": (0, 0), "a": (1, 1), "b": (-1, 1), "c": (1, -1), "d": (-1, -1)}
        sheet = sheet_of(places, Scale(1), {"l": ("road", ("a", "b", "c"))}, {name: (name, 1) for name in "mabcd"})
        sheet_sites = sheet.names()
        before = copy.deepcopy(self.all_of(sheet))
        self.assertIn("barred", [told[0] for told in sheet_sites.values()])
        for name in sheet_sites:
            if sheet_sites[name][0] == "barred":
                sheet_sites[name][1].clear()
        sheet.traces()["l"].clear()
        for told in (sheet_sites, sheet.pairs(), sheet.traces(), sheet.tiles(), *sheet.tile((0, 0)), *sheet.tile((9, 9)),
                     sheet.land().spots()):
            told.clear()
        sheet.tile((9, 9))[0].append(1)
        self.assertEqual(self.all_of(sheet), before)
        self.assertEqual(sheet.tile((9, 9)), ([], [], []))

    def test_what_was_handed_in_may_be_changed(self):
        spots = {"a": spot(1, 1), "b": spot(5, 5)}
        lines, sites = {"l": ("road", ("a", "b"))}, {"s": ("a", 1)}
        sheet = Sheet(Land(spots, lines, sites), Scale(1))
        before = copy.deepcopy(self.all_of(sheet))
        spots.clear()
        lines.clear()
        sites["t"] = ("b", 1)
        self.assertEqual(self.all_of(sheet), before)
        key = (0, 0)
        sheet.tile(key)
        self.assertEqual(key, (0, 0))


if __name__ == "__main__":
    unittest.main()
