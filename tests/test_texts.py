import copy
import random
import unittest

from gromatic.errors import BadText
from gromatic.texts import deed_text, read_deed, read_tile, tile_text
from helpers import START, chance_deed, chance_works, refuse

HALF = (1, 2)
NOUGHT = (0, 1)
PIECE = ("lane", 0, (NOUGHT, (-3, 2)), ((16, 1), (400, 81)))
TILE = ([PIECE, ("lane", 12, (HALF, HALF), (HALF, HALF))], [("inn", (0, -4)), ("mill", (16, 16))],
        [("inn", (-3, -4, 0, -3))])
TEXT = """line lane 0 0,-3/2 16,400/81
line lane 12 1/2,1/2 1/2,1/2
site inn 0,-4
site mill 16,16
name inn -3,-4,0,-3"""
THIRTY = "9" * 30
NO_NUMBERS = ("", "-", "+1", "01", "00", "-0", "-01", "--1", "1-", "1.0", "1e3", "a", " 1", "1_0", "\u0661", "\u00b2", "0x1",
              "1,", "9" + THIRTY, "-1" + "0" * 30)
NO_RATIOS = ("1/1", "5/1", "2/4", "0/2", "0/1", "1/0", "0/0", "1/-2", "-1/-2", "1/", "/2", "/", "1/2/3", "1//2", "+1/2",
             "1/+2", "01/2", "1/02", "-0/3", "1 /2", "1/ 2", "6/3", "-4/2", "1/" + "9" * 31, "9" * 31 + "/2", "1/2.0")
NO_NAMES = ("", "A", "Lane", "a1", "-", "a-b", "a,b", "\u00e9", "a\t", "_", "a/b")


class TileTexts(unittest.TestCase):
    def test_written(self):
        self.assertEqual(tile_text(TILE), TEXT)
        self.assertEqual(tile_text(([], [], [])), "")
        self.assertEqual(tile_text(([], [("a", (1, 2))], [])), "site a 1,2")
        self.assertEqual(tile_text(([], [], [("a", (1, 2, 3, 4)), ("b", (0, 0, 1, 1))])), "name a 1,2,3,4\nname b 0,0,1,1")
        self.assertEqual(tile_text(([PIECE], [], [])), TEXT.split("\n")[0])
        self.assertEqual(tile_text(tile=TILE), TEXT)

    def test_ratios(self):
        for one, word in (((0, 1), "0"), ((7, 1), "7"), ((-7, 1), "-7"), ((7, 2), "7/2"), ((-7, 2), "-7/2"),
                          ((1, 10 ** 29), "1/1" + "0" * 29), ((10 ** 30 - 1, 1), THIRTY)):
            tile = ([("a", 3, (one, NOUGHT), (HALF, one))], [], [])
            text = f"line a 3 {word},0 1/2,{word}"
            self.assertEqual(tile_text(tile), text)
            self.assertEqual(read_tile(text), tile)

    def test_there_and_back(self):
        self.assertEqual(read_tile(TEXT), TILE)
        self.assertEqual(read_tile(text=""), ([], [], []))
        for part in range(3):
            tile = tuple(TILE[at] if at == part else [] for at in range(3))
            self.assertEqual(read_tile(tile_text(tile)), tile)

    def test_kinds_of_what_is_read(self):
        pieces, sites, names = read_tile(TEXT)
        self.assertEqual([type(each) for each in (read_tile(TEXT), pieces, sites, names, pieces[0], pieces[0][2],
                                                  pieces[0][2][0], sites[0], sites[0][1], names[0][1])],
                         [tuple, list, list, list, tuple, tuple, tuple, tuple, tuple, tuple])

    def test_of_sheets_of_chance(self):
        chance = random.Random(46)
        many = 0
        for turn in range(40):
            stand = chance_works(chance, 30).stand()
            for scale in stand.scales():
                for key in stand.sheet(scale).tiles():
                    tile = stand.sheet(scale).tile(key)
                    before = copy.deepcopy(tile)
                    self.assertEqual(read_tile(tile_text(tile)), before)
                    self.assertEqual(tile, before)
                    many += 1
        self.assertGreater(many, 100)

    def test_lines_of_a_kind_in_any_order(self):
        lines = TEXT.split("\n")
        text = "\n".join([lines[1], lines[0], lines[0], lines[3], lines[2], lines[4], lines[4]])
        pieces, sites, names = TILE
        self.assertEqual(read_tile(text), ([pieces[1], pieces[0], pieces[0]], [sites[1], sites[0]], names * 2))
        self.assertEqual(tile_text(read_tile(text)), text)

    def test_long_names_and_strange_boxes_are_read(self):
        self.assertEqual(read_tile("site abcdefghij 1,2\nname z 5,5,0,0"),
                         ([], [("abcdefghij", (1, 2))], [("z", (5, 5, 0, 0))]))

    def test_thirty_figures(self):
        for number in (10 ** 30 - 1, 1 - 10 ** 30):
            self.assertEqual(read_tile(f"site a {number},0"), ([], [("a", (number, 0))], []))
            self.assertEqual(read_tile(f"name a 0,0,0,{number}"), ([], [], [("a", (0, 0, 0, number))]))
        self.assertEqual(read_tile(f"line a {THIRTY} 0,0 0,0")[0][0][1], 10 ** 30 - 1)
        one = (10 ** 30 - 1, 10 ** 29)
        self.assertEqual(read_tile(f"line a 0 {one[0]}/{one[1]},0 0,0")[0][0][2][0], one)

    def refused(self, line):
        """The line is refused wherever it stands among good ones."""
        good = TEXT.split("\n")
        for at in range(len(good) + 1):
            text = "\n".join(good[:at] + [line] + good[at:])
            if text:
                refuse(self, BadText, {"at": at}, read_tile, text)
                refuse(self, BadText, {"at": at}, read_tile, text + "\nwhat")

    def test_numbers_written_otherwise(self):
        for word in NO_NUMBERS:
            self.refused(f"line a {word} 0,0 0,0")
            for at in range(2):
                self.refused("site a " + ",".join([word if at == place else "0" for place in range(2)]))
            for at in range(4):
                self.refused("name a " + ",".join([word if at == place else "0" for place in range(4)]))

    def test_ratios_written_otherwise(self):
        for word in NO_RATIOS + NO_NUMBERS:
            self.refused(f"line a 0 {word},0 0,0")
            self.refused(f"line a 0 0,{word} 0,0")
            self.refused(f"line a 0 0,0 {word},0")
            self.refused(f"line a 0 0,0 0,{word}")

    def test_ratios_where_numbers_stand(self):
        for line in ("line a 1/2 0,0 0,0", "line a -1 0,0 0,0", "site a 1/2,0", "name a 0,0,1/2,0"):
            self.refused(line)

    def test_words_of_other_signs(self):
        for name in NO_NAMES:
            for line in (f"line {name} 0 0,0 0,0", f"site {name} 0,0", f"name {name} 0,0,0,0"):
                self.refused(line)

    def test_other_forms(self):
        for line in ("", " ", "line", "site", "name", "lines a 0 0,0 0,0", "Line a 0 0,0 0,0", "mark a -", "sites a 0,0", "Site a 0,0",
                     "names a 0,0,0,0", "Name a 0,0,0,0", "site a 0,0,0,0", "name a 0,0", "a a 0 0,0 0,0", "line a 0 0,0",
                     "line a 0 0,0 0,0 0,0", "line a 0,0 0,0", "site a", "site a 0", "site a 0,0,0", "site a 0,0 0,0",
                     "site a 0 0", "name a 0,0", "name a 0,0,0", "name a 0,0,0,0,0", "name a 0,0,0,0 0", "site  a 0,0",
                     "site a  0,0", " site a 0,0", "site a 0,0 ", "site\ta 0,0", "site a 0,0\r", "line a 0 0,0 0,0,0",
                     "line a 0 0 0,0"):
            self.refused(line)

    def test_kinds_behind_later_kinds(self):
        piece, site, name = "line a 0 0,0 0,0", "site a 0,0", "name a 0,0,0,0"
        for lines, at in (([site, piece], 1), ([name, piece], 1), ([name, site], 1), ([piece, site, piece], 2),
                          ([piece, name, name, site], 3), ([site, site, piece, "what"], 2), ([name, site, piece], 1)):
            refuse(self, BadText, {"at": at}, read_tile, "\n".join(lines))
        # A line of another form is told where it is the first.
        refuse(self, BadText, {"at": 1}, read_tile, "\n".join([name, "what", piece]))
        self.assertEqual(read_tile("\n".join([piece, name])), ([("a", 0, (NOUGHT, NOUGHT), (NOUGHT, NOUGHT))], [],
                                                               [("a", (0, 0, 0, 0))]))

    def test_line_ends_at_the_ends(self):
        refuse(self, BadText, {"at": 0}, read_tile, "\n")
        refuse(self, BadText, {"at": 1}, read_tile, "site a 0,0\n")
        refuse(self, BadText, {"at": 0}, read_tile, "\nsite a 0,0")
        refuse(self, BadText, {"at": 1}, read_tile, "site a 0,0\n\nsite b 0,0")
        refuse(self, BadText, {"at": 0}, read_tile, "site a 0,0\rsite b 0,0")


class DeedTexts(unittest.TestCase):
    TEXTS = {
        "mark a -": ("mark", "a", None), "mark abcdef 999,-999": ("mark", "abcdef", (999, -999)),
        "fix a -": ("fix", "a", None), "fix b 0,7": ("fix", "b", (0, 7)),
        "read a b -3 40 1": ("read", "a", "b", -3, 40, 1), "strike 12": ("strike", 12),
        "mend 3 0 -5 -": ("mend", 3, 0, -5, None), "mend 3 0 -5 9": ("mend", 3, 0, -5, 9),
        "line lane road a,b,a": ("line", "lane", "road", ("a", "b", "a")), "line lane road a": ("line", "lane", "road", ("a",)),
        "line lane shore -": ("line", "lane", "shore", ()), "unline lane": ("unline", "lane"),
        "site inn a 5": ("site", "inn", "a", 5), "unsite inn": ("unsite", "inn"),
        "scale wide 10 0 1 16": ("scale", "wide", 10, 0, 1, 16), "unscale wide": ("unscale", "wide"),
        "route whole a b": ("route", "whole", "a", "b"), "unroute whole": ("unroute", "whole"),
        "note wide inn -3 4 1": ("note", "wide", "inn", -3, 4, 1),
    }

    def refused(self, *texts):
        for text in texts:
            refuse(self, BadText, {"at": 0}, read_deed, text)

    def test_there_and_back(self):
        for text, deed in self.TEXTS.items():
            self.assertEqual(deed_text(deed), text)
            self.assertEqual(read_deed(text), deed)
            self.assertIs(type(read_deed(text)), tuple)
        self.assertEqual(deed_text(deed=("strike", 1)), "strike 1")
        self.assertEqual(read_deed(text="strike 1"), ("strike", 1))

    def test_marks_as_a_list(self):
        for marks, word in ((["a", "b"], "a,b"), (["a"], "a"), ([], "-"), (("a", "b"), "a,b"), ((), "-")):
            text = f"line lane road {word}"
            self.assertEqual(deed_text(("line", "lane", "road", marks)), text)
            self.assertEqual(read_deed(text), ("line", "lane", "road", tuple(marks)))
            self.assertIs(type(read_deed(text)[3]), tuple)

    def test_whether_or_not_a_works_would_do_it(self):
        for text, deed in (("mark abcdefghijk 123456789,-123456789", ("mark", "abcdefghijk", (123456789, -123456789))),
                           ("line lane river a,a", ("line", "lane", "river", ("a", "a"))),
                           ("line lane abcdefghi abcdefghi", ("line", "lane", "abcdefghi", ("abcdefghi",))),
                           ("read a a 999999999 -999999999 0", ("read", "a", "a", 999999999, -999999999, 0)),
                           ("strike -7", ("strike", -7)), ("strike 0", ("strike", 0)), ("site s m 0", ("site", "s", "m", 0)),
                           ("scale s -1 -1 -1 -1", ("scale", "s", -1, -1, -1, -1)), ("mark mark -", ("mark", "mark", None)),
                           ("note run note 0 0 0", ("note", "run", "note", 0, 0, 0)),
                           ("line l road " + ",".join("abababababab"), ("line", "l", "road", tuple("abababababab")))):
            self.assertEqual(read_deed(text), deed)
            self.assertEqual(deed_text(deed), text)

    def test_great_numbers_are_written(self):
        self.assertEqual(deed_text(("strike", 10 ** 29)), "strike 1" + "0" * 29)
        self.assertEqual(deed_text(("mark", "a", (-10 ** 12, 0))), "mark a -1000000000000,0")

    def test_of_deeds_of_chance(self):
        chance = random.Random(47)
        works = chance_works(chance, 20)
        for deed in [*START, *[chance_deed(chance, works) for turn in range(200)]]:
            settled = (*deed[:3], tuple(deed[3])) if deed[0] == "line" else deed
            self.assertEqual(read_deed(deed_text(deed)), settled)

    def test_other_words(self):
        self.refused("", " ", "dig", "dig a", "Mark a -", "marks a -", "undo", "redo", "run 1", "do", "a", "-", "last",
                     "mark\ta\t-")

    def test_other_lengths(self):
        for text in self.TEXTS:
            words = text.split(" ")
            self.refused(words[0], " ".join(words[:-1]), text + " a", text + " 1", text + " -")

    def test_empty_words(self):
        for text in self.TEXTS:
            self.refused(" " + text, text + " ", text.replace(" ", "  ", 1), "  ".join(text.rsplit(" ", 1)), text + "\n",
                         "\n" + text)
            words = text.split(" ")
            for at in range(len(words)):
                self.refused(" ".join(words[:at] + [""] + words[at + 1:]))

    def test_a_minus_alone_where_it_may_not_stand(self):
        for text in self.TEXTS:
            words = text.split(" ")
            for at in range(1, len(words)):
                changed = " ".join(words[:at] + ["-"] + words[at + 1:])
                if (words[0], at) in (("mark", 2), ("fix", 2), ("mend", 4), ("line", 3)):
                    self.assertIn(read_deed(changed)[at], (None, ()))
                else:
                    self.refused(changed)

    def test_numbers_written_otherwise(self):
        for bad in (*NO_NUMBERS, "1234567890", "-1234567890", "1/2"):
            if bad != "-":
                self.refused(f"strike {bad}", f"mend {bad} 0 0 1", f"mend 1 {bad} 0 1", f"mend 1 0 {bad} 1",
                             f"mend 1 0 0 {bad}", f"read a b {bad} 0 1", f"read a b 0 {bad} 1", f"read a b 0 0 {bad}",
                             f"site s m {bad}", f"scale s {bad} 0 1 16", f"scale s 1 {bad} 1 16", f"scale s 1 0 {bad} 16",
                             f"scale s 1 0 1 {bad}", f"note s m {bad} 0 1", f"note s m 0 {bad} 1", f"note s m 0 0 {bad}")
                self.refused(f"mark a {bad}", f"mark a {bad},0", f"mark a 0,{bad}", f"fix a {bad},0", f"fix a 0,{bad}")
        self.refused("strike -", "strike 1,1")
        for good in ("0", "999999999", "-999999999", "-1", "10"):
            self.assertEqual(read_deed(f"strike {good}"), ("strike", int(good)))

    def test_places_written_otherwise(self):
        for bad in ("1", "1,2,3", ",", "1,", ",1", "-,-", "-,1", "1,-", "a,b", "(1,2)", "1;2", "--", "None"):
            self.refused(f"mark a {bad}", f"fix a {bad}")

    def test_words_of_other_signs(self):
        for bad in NO_NAMES:
            self.refused(f"mark {bad} -", f"fix {bad} -", f"read {bad} b 0 0 1", f"read a {bad} 0 0 1", f"unline {bad}",
                         f"line {bad} road a,b", f"line l {bad} a,b", f"site {bad} m 1", f"site s {bad} 1", f"unsite {bad}",
                         f"scale {bad} 1 0 1 16", f"unscale {bad}", f"route {bad} a b", f"route r {bad} b",
                         f"route r a {bad}", f"unroute {bad}", f"note {bad} s 0 0 1", f"note w {bad} 0 0 1")

    def test_marks_written_otherwise(self):
        for bad in (",", "a,", ",a", "a,,b", "a,-", "-,a", "-,-", "A,b", "a,1", "a;b", "--", "a, b"):
            self.refused(f"line l road {bad}")


if __name__ == "__main__":
    unittest.main()
