import copy
import unittest

from gromatic.desk import Desk
from gromatic.texts import deed_text, ratio_text
from gromatic.works import Works
from helpers import START


def desk_of(*lines):
    """A desk to which these lines were said."""
    desk = Desk()
    for line in lines:
        desk.say(line)
    return desk


def started():
    return desk_of(*[deed_text(deed) for deed in START])


def all_of(works):
    return copy.deepcopy((works.survey().marks(), works.survey().readings(), works.lines(), works.sites(), works.routes(),
                          works.edition, works.calls, works.done(), str(works.report())))


class Making(unittest.TestCase):
    def test_of_its_own(self):
        for desk in (Desk(), Desk(works=None)):
            self.assertIsInstance(desk.works, Works)
            self.assertEqual((desk.works, desk.works.calls), (Works(), 0))
            desk.say("mark a -")
            self.assertEqual(desk.works.survey().marks(), {"a": None})

    def test_two_desks_have_nothing_to_do_with_one_another(self):
        one, other = Desk(), Desk()
        one.say("mark a -")
        self.assertEqual(other.works, Works())

    def test_the_very_works(self):
        works = Works()
        desk = Desk(works=works)
        self.assertIs(desk.works, works)
        self.assertEqual(desk.say(line="mark a 0,0"), "ok")
        self.assertEqual(works.done(), [("mark", "a", (0, 0))])
        works.mark("b", at=(7, -7))
        self.assertEqual(desk.say("spot b"), "7 -7")
        self.assertEqual(Desk(works=works).say("undo"), "ok")
        self.assertEqual(desk.say("spot b"), "no nomark")

    def test_works_is_handed_in_by_its_name_alone(self):
        with self.assertRaises(TypeError):
            Desk(Works())


class Deeds(unittest.TestCase):
    def test_each(self):
        desk = Desk()
        for line, told in (("mark a 0,0", "ok"), ("mark b -", "ok"), ("mark c -", "ok"), ("fix c 9,9", "ok"),
                           ("fix c -", "ok"), ("read a b 20 3 1", "1"), ("read b c -5 7 2", "2"), ("mend 2 -6 8 -", "ok"),
                           ("mend 2 -6 8 9", "ok"), ("line lane road a,b", "ok"), ("line dike shore b,c", "ok"),
                           ("unline dike", "ok"), ("site inn b 5", "ok"), ("site mill c 1", "ok"), ("unsite mill", "ok"),
                           ("scale wide 4 0 1 16", "ok"), ("scale far 9 0 1 16", "ok"), ("unscale far", "ok"),
                           ("route trip a b", "ok"), ("route back b a", "ok"), ("unroute back", "ok"),
                           ("note wide inn 5 1 3", "3"), ("strike 2", "ok"), ("read a b 0 0 1", "4"), ("undo", "ok"),
                           ("undo", "ok"), ("redo", "ok"), ("read a c 0 0 1", "4")):
            self.assertEqual(desk.say(line), told, line)
        works = Works()
        for deed in desk.works.done():
            works.do(deed)
        self.assertEqual(desk.works, works)
        self.assertEqual((desk.works.edition, desk.works.calls), (28, 28))

    def test_refusals(self):
        full = [f"mark {name} 0,0" for name in "abcdefghijkl"]
        for line, told, *ahead in (
                ("mark abcdefg -", "badname"), ("mark a 0,0", "taken", "mark a -"), ("mark a 1000,0", "badnumber"),
                ("mark m -", "full", *full), ("fix z -", "nomark"), ("read a z 0 0 1", "nomark", "mark a -"),
                ("read a a 0 0 1", "badreading", "mark a -"), ("strike 1", "noreading"), ("mend 1 0 0 -", "noreading"),
                ("line l river a,b", "badkind", "mark a -"), ("line l road a", "badrow", "mark a -"),
                ("line l road -", "badrow"), ("line l road a,b", "nomark", "mark a -"), ("unline l", "noline"),
                ("site s a 0", "badnumber", "mark a -"), ("site s z 1", "nomark"), ("unsite s", "nosite"),
                ("scale s 0 0 1 16", "badscale"), ("unscale s", "noscale"), ("route r a z", "nomark", "mark a -"),
                ("unroute r", "noroute"), ("note s s 0 0 1", "noscale"), ("note s s 0 0 1", "nosite", "scale s 1 0 1 16"),
                ("note s s 0 0 1", "nothingfixed", "scale s 1 0 1 16", "mark a -", "site s a 1"),
                ("mark a 121,0", "toofar", "scale s 1 0 1 16"), ("undo", "nothingleft"), ("redo", "nothingleft"),
                ("redo", "nothingleft", "mark a -", "undo", "mark b -"), ("strike 999999999", "noreading"),
                ("unline abcdefghijkl", "noline"), ("mark abcdefghijkl -", "badname")):
            desk = desk_of(*ahead)
            before, calls = all_of(desk.works)[:6], desk.works.calls
            self.assertEqual(desk.say(line), f"no {told}", line)
            self.assertEqual(all_of(desk.works)[:6], before)
            self.assertEqual(desk.works.calls, calls + 1)


class Questions(unittest.TestCase):
    def test_spot(self):
        desk = desk_of("mark a 0,-7", "mark b -", "mark c -", "read a b 3 4 1", "read a b 4 4 2")
        self.assertEqual(desk.say("spot a"), "0 -7")
        self.assertEqual(desk.say("spot b"), "11/3 -3")
        self.assertEqual(desk.say("spot c"), "loose")
        for name in ("d", "abcdefghijk", "inn"):
            self.assertEqual(desk.say(f"spot {name}"), "no nomark")

    def test_way(self):
        desk = started()
        desk.say("route stay e e")
        desk.say("route here b b")
        length, marks, prices = desk.works.stand().way("whole")
        self.assertEqual(desk.say("way whole"), f"{ratio_text(length)} a b c d")
        self.assertEqual(desk.say("way here"), "0 b")
        self.assertEqual(desk.say("way stay"), "none")
        desk.say("unroute stay")
        desk.say("route no a e")
        self.assertEqual(desk.say("way no"), "none")
        self.assertEqual(desk.say("way stay"), "no noroute")
        for name in ("wide", "abcdefghijk", "a"):
            self.assertEqual(desk.say(f"way {name}"), "no noroute")

    def test_a_length_with_an_under(self):
        desk = desk_of("mark a 0,0", "mark b -", "read a b 3 0 1", "read a b 4 0 1", "line l road b,a", "route r b a")
        self.assertEqual(desk.say("way r"), "7/2 b a")

    def test_tiles(self):
        desk = started()
        self.assertEqual(desk.say("tiles wide"), str(len(desk.works.stand().sheet("wide"))))
        desk.say("scale near 1 0 1 16")
        desk.say("unline lane")
        desk.say("unsite inn")
        desk.say("unsite church")
        self.assertEqual(desk.say("tiles wide"), "0")
        for name in ("whole", "abcdefghijk", "far"):
            self.assertEqual(desk.say(f"tiles {name}"), "no noscale")

    def test_tile(self):
        desk = desk_of("mark a 0,0", "mark b 20,3", "scale big 4 0 1 16", "site farm b 5", "line lane road a,b")
        self.assertEqual(desk.say("tile big 0 0"), "line lane 0 0,0 5,1 ; site farm 5,1 ; name farm 5,1,9,2")
        self.assertEqual(desk.say("tile big -1 0"), "line lane 0 0,0 0,0")
        self.assertEqual(desk.say("tile big 1 0"), "nothing")
        self.assertEqual(desk.say("tile big 999999999 -999999999"), "nothing")
        for name in ("lane", "abcdefghijk", "far"):
            self.assertEqual(desk.say(f"tile {name} 0 0"), "no noscale")

    def test_last(self):
        desk = Desk()
        self.assertEqual(desk.say("last"), "marks 0, tiles 0")
        desk = desk_of("mark a 0,0", "scale big 4 0 1 16", "site farm a 5")
        self.assertEqual(desk.say("last"), "marks 0, tiles 4")
        desk.say("mark a 0,0")
        self.assertEqual(desk.say("last"), "marks 0, tiles 4")
        desk.say("fix a -")
        self.assertEqual(desk.say("last"), "marks 1, tiles 4")
        desk.say("undo")
        self.assertEqual(desk.say("last"), "marks 1, tiles 4")

    def test_asking_changes_nothing(self):
        desk = started()
        before = all_of(desk.works)
        for line in ("spot a", "spot e", "spot z", "way whole", "way z", "tiles wide", "tiles z", "tile wide 0 0",
                     "tile wide 9 9", "tile z 0 0", "last", "", "what", "spot", "dig a", "mark a", "mark q 01,0"):
            desk.say(line)
            self.assertEqual(all_of(desk.works), before)


class Other(unittest.TestCase):
    def said(self, *lines):
        """Each of the lines is answered with "what", and nothing is counted."""
        desk = started()
        before = all_of(desk.works)
        for line in lines:
            self.assertEqual(desk.say(line), "what", line)
        self.assertEqual(all_of(desk.works), before)

    def test_other_words(self):
        self.said("", " ", "what", "dig", "dig a", "Mark a -", "UNDO", "spots a", "run 1", "do", "report", "done", "a", "-",
                  "no", "ok")

    def test_too_few_or_too_many(self):
        self.said("spot", "spot a b", "way", "way whole back", "tiles", "tiles wide wide", "tile", "tile wide", "tile wide 0",
                  "tile wide 0 0 0", "last a", "last 1", "undo 1", "redo 1", "undo undo", "mark z", "mark z - -", "strike",
                  "strike 1 1")

    def test_blanks(self):
        for line in ("spot a", "way whole", "tiles wide", "tile wide 0 0", "last", "undo", "redo", "mark z -", "strike 1",
                     "note wide inn 0 0 1"):
            self.said(" " + line, line + " ", line + "\n", line + "\t", "\n" + line, line + "\r")
            if " " in line:
                self.said(line.replace(" ", "  ", 1), line.replace(" ", "\t", 1))

    def test_names_of_other_signs(self):
        for name in ("", "A", "a1", "-", "a,b", "\u00e9", "1", "a_b"):
            self.said(f"spot {name}", f"way {name}", f"tiles {name}", f"tile {name} 0 0", f"mark {name} -")

    def test_numbers_written_otherwise(self):
        for word in ("", "-", "+1", "01", "-0", "00", "1.0", "a", "1/2", "1,1", "1234567890", "-1234567890", "\u0661"):
            self.said(f"tile wide {word} 0", f"tile wide 0 {word}", f"strike {word}", f"read a b {word} 0 1")

    def test_a_line_of_no_form_with_names_of_what_there_is_not(self):
        self.said("tile z 01 0", "tile z 0", "spot z z")


if __name__ == "__main__":
    unittest.main()
