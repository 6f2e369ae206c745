import copy
import random
import unittest

from gromatic.errors import NoEdition
from gromatic.press import Press
from gromatic.reader import Reader
from gromatic.texts import tile_text
from gromatic.works import Works
from helpers import START, chance_deed, chance_works, refuse, try_deeds

BIG = 10 ** 29


def made():
    works = Works()
    works.run(list(START))
    return works


def tiles_anew(works):
    """All tiles of all sheets as the works stands, by names and keys."""
    stand = works.stand()
    return {(name, *key): tile_text(stand.sheet(name).tile(key))
            for name in stand.scales() for key in stand.sheet(name).tiles()}


def laid_on(tiles, rows):
    """The tiles that rows make of others."""
    told = dict(tiles)
    for scale, a, b, text in rows:
        told[(scale, a, b)] = text
    return {key: text for key, text in told.items() if text}


class Editions(unittest.TestCase):
    def test_of_nothing(self):
        press = Press(Works())
        self.assertEqual((press.printed(), press.tiles_of(0)), (0, {}))
        self.assertEqual(press.publish(), 1)
        self.assertEqual((press.printed(), press.tiles_of(1), press.patch(1)), (1, {}, (1, [])))

    def test_as_the_works_stands(self):
        works = made()
        press = Press(works=works)
        self.assertEqual(press.publish(), 1)
        told = press.tiles_of(number=1)
        self.assertEqual(told, tiles_anew(works))
        self.assertIn("site inn 3,1", told[("wide", 0, 0)].split("\n"))
        self.assertEqual({key[0] for key in told}, {"wide"})
        self.assertTrue(all(told.values()))

    def test_edition_nought_stays_empty(self):
        press = Press(made())
        self.assertEqual(press.tiles_of(0), {})
        press.publish()
        self.assertEqual(press.tiles_of(0), {})

    def test_works_that_goes_on(self):
        works = made()
        press = Press(works)
        kept = [{}]
        for deed in (None, ("mend", 1, 30, 30, 9), ("scale", "near", 3, 0, 2, 8), ("line", "m", "shore", ("a", "d")),
                     ("unline", "lane"), ("unsite", "inn"), ("site", "mill", "a", 1), ("unscale", "wide"), None,
                     ("unscale", "near"), ("scale", "wide", 7, 5, 1, 8)):
            if deed:
                works.do(deed)
            self.assertEqual(press.publish(), len(kept))
            kept.append(tiles_anew(works))
            self.assertEqual(press.printed(), len(kept) - 1)
            for number, tiles in enumerate(kept):
                self.assertEqual(press.tiles_of(number), tiles)
        while works.done():
            works.undo()
        for number, tiles in enumerate(kept):
            self.assertEqual(press.tiles_of(number), tiles)
        self.assertEqual(kept[10], {})
        self.assertEqual(press.publish(), 12)
        self.assertEqual(press.tiles_of(12), {})

    def test_asking_and_deeds_print_nothing(self):
        works = made()
        press = Press(works)
        works.unsite("inn")
        self.assertEqual(press.printed(), 0)
        refuse(self, NoEdition, {"number": 1}, press.tiles_of, 1)

    def test_printing_changes_nothing_in_the_works(self):
        works = made()
        before = (works.edition, works.calls, works.done(), str(works.report()))
        Press(works).publish()
        self.assertEqual((works.edition, works.calls, works.done(), str(works.report())), before)
        self.assertEqual(works, made())

    def test_two_presses_of_one_works(self):
        works = made()
        one, other = Press(works), Press(works)
        one.publish()
        works.unline("lane")
        one.publish()
        self.assertEqual((one.printed(), other.printed()), (2, 0))
        other.publish()
        self.assertEqual(other.tiles_of(1), one.tiles_of(2))
        self.assertNotEqual(one.tiles_of(1), one.tiles_of(2))
        refuse(self, NoEdition, {"number": 2}, other.tiles_of, 2)

    def test_no_edition(self):
        press = Press(made())
        for turn in range(3):
            for number in (-1, press.printed() + 1, BIG, -BIG, True, False):
                refuse(self, NoEdition, {"number": number}, press.tiles_of, number)
            for number in (-1, 0, press.printed() + 1, BIG, -BIG, True, False):
                refuse(self, NoEdition, {"number": number}, press.patch, number)
            press.publish()
        self.assertEqual(press.printed(), 3)


class Patches(unittest.TestCase):
    def test_all_tiles_of_the_first_edition(self):
        press = Press(made())
        press.publish()
        tiles = press.tiles_of(1)
        self.assertEqual(press.patch(number=1), (1, [(*key, tiles[key]) for key in sorted(tiles)]))

    def test_nothing_turned(self):
        press = Press(made())
        press.publish()
        press.publish()
        self.assertEqual(press.patch(2), (2, []))

    def test_changed_new_and_gone_tiles(self):
        works = Works()
        works.run([("mark", "a", (4, 4)), ("mark", "b", (-20, 4)), ("mark", "c", (44, 4)), ("scale", "s", 1, 0, 1, 16),
                   ("site", "aa", "a", 5), ("site", "b", "b", 5)])
        press = Press(works)
        press.publish()
        works.run([("unsite", "b"), ("site", "c", "c", 5), ("unsite", "aa"), ("site", "a", "a", 5)])
        press.publish()
        self.assertEqual(press.patch(1), (1, [("s", -2, 0, "site b -20,4\nname b -20,4,-19,5"),
                                              ("s", 0, 0, "site aa 4,4\nname aa 4,4,6,5")]))
        self.assertEqual(press.patch(2), (2, [("s", -2, 0, ""), ("s", 0, 0, "site a 4,4\nname a 4,4,5,5"),
                                              ("s", 2, 0, "site c 44,4\nname c 44,4,45,5")]))

    def test_scales_that_come_and_go(self):
        works = made()
        press = Press(works)
        press.publish()
        works.run([("unscale", "wide"), ("scale", "broad", 7, 5, 1, 8)])
        press.publish()
        number, rows = press.patch(2)
        old, new = press.tiles_of(1), press.tiles_of(2)
        self.assertEqual(rows, [(*key, new[key]) for key in sorted(new)] + [(*key, "") for key in sorted(old)])
        self.assertTrue(old and new)

    def test_each_leads_from_the_edition_ahead(self):
        chance = random.Random(43)
        kinds = set()
        for turn in range(12):
            works = chance_works(chance, 12)
            press = Press(works)
            for edition in range(1, 7):
                self.assertEqual(press.publish(), edition)
                try_deeds(works, [chance_deed(chance, works) for at in range(3)], as_run=False)
            for edition in range(1, 7):
                number, rows = press.patch(edition)
                old, new = press.tiles_of(edition - 1), press.tiles_of(edition)
                self.assertEqual(number, edition)
                self.assertEqual(laid_on(old, rows), new)
                self.assertEqual([row[:3] for row in rows], sorted(set(row[:3] for row in rows)))
                for *key, text in rows:
                    self.assertNotEqual(old.get(tuple(key), ""), text)
                    kinds.add((tuple(key) in old, text != ""))
        self.assertEqual(kinds, {(True, True), (True, False), (False, True)})


class Copies(unittest.TestCase):
    def test_what_was_told_may_be_changed(self):
        works = made()
        press = Press(works)
        press.publish()
        works.mend(1, 30, 30)
        press.publish()

        def all_of():
            return copy.deepcopy(([press.tiles_of(number) for number in range(3)], [press.patch(1), press.patch(2)]))

        before = all_of()
        for told in (press.tiles_of(1), press.tiles_of(2), press.patch(1)[1], press.patch(2)[1]):
            self.assertTrue(told)
            told.clear()
        press.tiles_of(0)[("wide", 0, 0)] = "what"
        self.assertEqual(all_of(), before)

    def test_kinds(self):
        press = Press(made())
        press.publish()
        patch = press.patch(1)
        self.assertEqual([type(each) for each in (patch, patch[0], patch[1], patch[1][0])], [tuple, int, list, tuple])
        reader = Reader()
        reader.take(patch)
        self.assertEqual(reader.tiles(), press.tiles_of(1))


if __name__ == "__main__":
    unittest.main()
