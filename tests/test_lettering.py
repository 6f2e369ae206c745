import copy
import itertools
import random
import unittest

from gromatic.lettering import SIDES, box_at, lettered, lettered_holds
from helpers import filled


def common(one, other):
    """Whether two boxes have a point in common, tried for all whole points (all corners are whole)."""
    return bool(set(range(one[0], one[2] + 1)) & set(range(other[0], other[2] + 1))
                and set(range(one[1], one[3] + 1)) & set(range(other[1], other[3] + 1)))


def told_anew(sites, letter):
    """What lettered is to tell, sentence by sentence."""
    taken = sorted(sites, key=lambda name: (sites[name][1], name))
    stands = [name for name in taken
              if not any(sites[other][0] == sites[name][0] for other in taken[:taken.index(name)])]
    told, boxes = {}, {}
    for name in stands:
        bars = []
        for side in ("ne", "nw", "se", "sw"):
            (i, j), wide = sites[name][0], letter * len(name)
            box = (i - wide * ("w" in side), j - letter * ("s" in side), i + wide * ("e" in side), j + letter * ("n" in side))
            why = [("site", other) for other in stands if other != name and common(box, sites[other][0] * 2)]
            why += [("name", other) for other in boxes if common(box, boxes[other])]
            if not why:
                told[name], boxes[name] = ("laid", side, box), box
                break
            bars.append(why[0])
        else:
            told[name] = ("barred", bars)
    for name in taken:
        if name not in stands:
            told[name] = ("under", next(other for other in stands if sites[other][0] == sites[name][0]))
    return told


class Boxes(unittest.TestCase):
    def test_sides(self):
        self.assertEqual(SIDES, ("ne", "nw", "se", "sw"))
        self.assertIs(type(SIDES), tuple)

    def test_box_at(self):
        self.assertEqual(box_at((0, 0), "abc", 2, "ne"), (0, 0, 6, 2))
        self.assertEqual(box_at((0, 0), "abc", 2, "nw"), (-6, 0, 0, 2))
        self.assertEqual(box_at((0, 0), "abc", 2, "se"), (0, -2, 6, 0))
        self.assertEqual(box_at((0, 0), "abc", 2, "sw"), (-6, -2, 0, 0))
        self.assertEqual(box_at((-7, 5), "a", 1, "sw"), (-8, 4, -7, 5))

    def test_names_and_letters_of_several_sizes(self):
        for many, letter in itertools.product(range(1, 7), range(1, 10)):
            wide = many * letter
            boxes = [box_at((10, -20), "qwerty"[:many], letter, side) for side in SIDES]
            self.assertEqual(boxes, [(10, -20, 10 + wide, -20 + letter), (10 - wide, -20, 10, -20 + letter),
                                     (10, -20 - letter, 10 + wide, -20), (10 - wide, -20 - letter, 10, -20)])

    def test_by_name(self):
        self.assertEqual(box_at(side="ne", letter=1, name="ab", pair=(1, 2)), (1, 2, 3, 3))


class OnePair(unittest.TestCase):
    def test_by_rank(self):
        sites = {"a": ((1, 1), 9), "b": ((1, 1), 3), "c": ((1, 1), 5)}
        self.assertEqual(lettered(sites, 1), {"b": ("laid", "ne", (1, 1, 2, 2)), "a": ("under", "b"), "c": ("under", "b")})

    def test_by_name(self):
        sites = {"c": ((1, 1), 3), "bb": ((1, 1), 3), "b": ((1, 1), 3)}
        self.assertEqual(lettered(sites, 1), {"b": ("laid", "ne", (1, 1, 2, 2)), "bb": ("under", "b"), "c": ("under", "b")})

    def test_ranks_of_any_numbers(self):
        sites = {"a": ((0, 0), 10 ** 29), "b": ((0, 0), -10 ** 29), "c": ((0, 0), 0), "d": ((0, 0), -1)}
        self.assertEqual(lettered(sites, 1)["b"][0], "laid")
        for name in "acd":
            self.assertEqual(lettered(sites, 1)[name], ("under", "b"))

    def test_those_under_bar_nothing(self):
        sites = {"a": ((0, 0), 1), "b": ((0, 0), 2), "c": ((9, 9), 3)}
        self.assertEqual(lettered(sites, 1)["a"], ("laid", "ne", (0, 0, 1, 1)))


class Barring(unittest.TestCase):
    def side_of(self, others, name="ab", letter=2, rank=5):
        """At which side a name at (0, 0) is laid beside others, which are lettered behind it unless told otherwise."""
        return lettered({name: ((0, 0), rank), **others}, letter)[name][1]

    def test_alone(self):
        self.assertEqual(lettered({"ab": ((0, 0), 5)}, 2), {"ab": ("laid", "ne", (0, 0, 4, 2))})
        self.assertEqual(lettered({}, 2), {})

    def test_by_a_site_within_and_on_the_rim(self):
        for pair in ((1, 1), (0, 1), (4, 1), (2, 0), (2, 2), (4, 0), (0, 2), (4, 2)):
            self.assertNotEqual(self.side_of({"x": (pair, 9)}), "ne", pair)
        for pair in ((5, 0), (5, 2), (0, 3), (4, 3), (1, -1), (-1, 1), (-1, 3), (5, 3)):
            self.assertEqual(self.side_of({"x": (pair, 9)}), "ne", pair)

    def test_each_side_in_turn(self):
        self.assertEqual(self.side_of({"x": ((1, 1), 9)}), "nw")
        self.assertEqual(self.side_of({"x": ((1, 1), 9), "y": ((-1, 1), 9)}), "se")
        self.assertEqual(self.side_of({"x": ((1, 1), 9), "y": ((-1, 1), 9), "z": ((1, -1), 9)}), "sw")
        # A site on the rim between two sides bars both of them.
        self.assertEqual(self.side_of({"x": ((0, 1), 9)}), "se")
        self.assertEqual(self.side_of({"x": ((0, 2), 9), "y": ((4, 0), 9)}), "sw")
        self.assertEqual(self.side_of({"x": ((3, 0), 9)}), "nw")

    def test_whatever_its_rank(self):
        for rank in (-1, 1, 5, 9, 99):
            told = lettered({"ab": ((0, 0), 5), "x": ((1, 1), rank)}, 1)
            self.assertEqual(told["ab"], ("laid", "nw", (-2, 0, 0, 1)))

    def test_by_a_name_lettered_ahead(self):
        told = lettered({"m": ((0, 0), 5), "abcdef": ((-12, 1), 1)}, 2)
        self.assertEqual(told, {"abcdef": ("laid", "ne", (-12, 1, 0, 3)), "m": ("laid", "se", (0, -2, 2, 0))})
        told = lettered({"m": ((0, 0), 5), "abcdef": ((-13, 1), 1)}, 2)
        self.assertEqual(told, {"abcdef": ("laid", "ne", (-13, 1, -1, 3)), "m": ("laid", "ne", (0, 0, 2, 2))})

    def test_rims_of_names(self):
        ahead = {"k": ((0, 3), 1)}
        self.assertEqual(lettered(ahead, 3)["k"], ("laid", "ne", (0, 3, 3, 6)))
        # One above another: the rims have points in common, or only a corner.
        self.assertEqual(lettered({**ahead, "m": ((1, 0), 2)}, 3)["m"], ("laid", "se", (1, -3, 4, 0)))
        self.assertEqual(lettered({**ahead, "m": ((3, 0), 2)}, 3)["m"], ("laid", "se", (3, -3, 6, 0)))
        self.assertEqual(lettered({**ahead, "m": ((4, 0), 2)}, 3)["m"], ("laid", "ne", (4, 0, 7, 3)))
        self.assertEqual(lettered({**ahead, "m": ((6, 0), 2)}, 3)["m"], ("laid", "ne", (6, 0, 9, 3)))

    def test_a_name_lettered_behind_bars_nothing(self):
        told = lettered({"ab": ((0, 0), 1), "x": ((5, 1), 9)}, 2)
        self.assertEqual(told["ab"], ("laid", "ne", (0, 0, 4, 2)))

    def test_the_order_is_by_rank_then_name(self):
        sites = {"b": ((0, 0), 5), "a": ((2, 1), 5)}
        # The first one of them has its side right and above; its box would touch that of the other one.
        self.assertEqual(lettered(sites, 1)["a"], ("laid", "ne", (2, 1, 3, 2)))
        self.assertEqual(lettered(sites, 1)["b"], ("laid", "ne", (0, 0, 1, 1)))
        self.assertEqual(lettered(sites, 2)["a"], ("laid", "ne", (2, 1, 4, 3)))
        self.assertEqual(lettered(sites, 2)["b"], ("laid", "nw", (-2, 0, 0, 2)))
        sites = {"b": ((0, 0), 5), "a": ((3, 1), 5)}
        self.assertEqual(lettered(sites, 3)["b"][1], "nw")
        self.assertEqual(lettered({**sites, "a": ((3, 4), 6)}, 3)["b"][1], "ne")

    def test_all_four_barred_by_sites(self):
        sites = {"m": ((0, 0), 1), "a": ((1, 1), 9), "b": ((-1, 1), 8), "c": ((1, -1), 7), "d": ((-1, -1), 6)}
        told = lettered(sites, 1)
        self.assertEqual(told["m"], ("barred", [("site", "a"), ("site", "b"), ("site", "c"), ("site", "d")]))
        self.assertIs(type(told["m"][1]), list)

    def test_the_first_site_by_rank_then_name(self):
        sites = {"m": ((0, 0), 5), "a": ((1, 1), 9), "b": ((0, 1), 8), "c": ((0, -1), 8), "d": ((1, 0), 8), "e": ((-1, 0), 2)}
        self.assertEqual(lettered(sites, 1)["m"],
                         ("barred", [("site", "b"), ("site", "e"), ("site", "c"), ("site", "e")]))

    def test_all_four_barred_by_names_and_sites(self):
        sites = {"m": ((0, 0), 9), "up": ((0, 4), 1), "e": ((3, 1), 2), "f": ((-9, 1), 0), "g": ((-1, -3), 3),
                 "h": ((0, -3), 8)}
        told = lettered(sites, 3)
        self.assertEqual(told, told_anew(sites, 3))
        self.assertEqual(told["m"][0], "barred")
        self.assertEqual([why[0] for why in told["m"][1]], ["site", "name", "site", "site"])

    def test_a_site_is_told_ahead_of_a_name(self):
        sites = {"abcdef": ((-7, 1), 1), "z": ((0, 2), 9), "m": ((0, 0), 5)}
        told = lettered(sites, 2)
        self.assertEqual(told, told_anew(sites, 2))
        self.assertEqual(told["m"], ("laid", "se", (0, -2, 2, 0)))
        sites["y"] = ((0, -2), 10)
        self.assertEqual(lettered(sites, 2)["m"],
                         ("barred", [("site", "z"), ("site", "z"), ("site", "y"), ("site", "y")]))

    def test_all_four_barred_by_names(self):
        sites = {"m": ((0, 0), 5), "abcdef": ((-12, 1), 1), "vvvvvv": ((-12, -3), 2)}
        self.assertEqual(lettered(sites, 2)["m"],
                         ("barred", [("name", "abcdef"), ("name", "abcdef"), ("name", "vvvvvv"), ("name", "vvvvvv")]))

    def test_the_first_lettered_name(self):
        sites = {"m": ((0, 0), 5), "abcdef": ((-12, 1), 1), "vvvvvv": ((-12, -3), 2), "k": ((1, -1), 0)}
        rest = [("name", "abcdef"), ("site", "k"), ("name", "vvvvvv")]
        self.assertEqual(lettered(sites, 2)["k"], ("laid", "ne", (1, -1, 3, 1)))
        self.assertEqual(lettered(sites, 2)["m"], ("barred", [("name", "k"), *rest]))
        sites["k"] = ((1, -1), 3)
        self.assertEqual(lettered(sites, 2)["m"], ("barred", [("name", "abcdef"), *rest]))

    def test_what_is_barred_is_not_lettered(self):
        sites = {"m": ((0, 0), 1), "a": ((1, 1), 9), "b": ((-1, 1), 8), "c": ((1, -1), 7), "d": ((-1, -1), 6)}
        told = lettered(sites, 1)
        self.assertEqual(told, told_anew(sites, 1))
        self.assertEqual({told[name][0] for name in "abcd"}, {"laid"})

    def test_as_told_anew(self):
        chance = random.Random(26)
        words = ("a", "b", "cc", "dd", "eee", "ffff", "ggggg", "hhhhhh", "ab", "ba", "x", "zzzzzz")
        seen = set()
        for turn in range(500):
            names = chance.sample(words, chance.randint(1, 10))
            most = chance.choice((2, 4, 8, 20))
            sites = {name: ((chance.randint(-most, most), chance.randint(-most, most)), chance.choice((-3, 1, 2, 9)))
                     for name in names}
            letter = chance.randint(1, 9)
            told = lettered(sites, letter)
            self.assertEqual(told, told_anew(sites, letter))
            self.assertIs(lettered_holds(sites, letter, told), True)
            for each in told.values():
                seen |= {each[:2]} if each[0] == "laid" else {each[0], *[why[0] for why in each[1]]}
        self.assertLessEqual({"barred", "under", "site", "name", *[("laid", side) for side in SIDES]}, seen)

    def test_whatever_the_order_of_the_dict(self):
        sites = {"m": ((0, 0), 1), "a": ((1, 1), 1), "b": ((1, 1), 1), "c": ((2, 1), 1)}
        for names in itertools.permutations(sites):
            self.assertEqual(lettered(filled(sites, names), 1), told_anew(sites, 1))


class Holds(unittest.TestCase):
    SITES = {"m": ((0, 0), 1), "a": ((1, 1), 9), "b": ((-1, 1), 8), "c": ((1, -1), 7), "d": ((-1, -1), 6),
             "u": ((0, 0), 2), "far": ((50, 50), 3)}

    def test_of_what_is_told(self):
        self.assertIs(lettered_holds(self.SITES, 1, lettered(self.SITES, 1)), True)
        self.assertIs(lettered_holds({}, 1, {}), True)

    def test_one_thing_another(self):
        good = lettered(self.SITES, 1)
        self.assertEqual([good[name][0] for name in ("m", "u", "far")], ["barred", "under", "laid"])
        others = {
            "far": [("laid", "nw", (50, 50, 53, 51)), ("laid", "ne", (50, 50, 53, 52)), ("laid", "nw", (47, 50, 50, 51)),
                    ("under", "m"), ("barred", []), ("laid", "ne")],
            "u": [("under", "a"), ("under", "u"), ("laid", "ne", (0, 0, 1, 1))],
            "m": [("barred", good["m"][1][:3]), ("barred", good["m"][1] + [("site", "a")]), ("barred", good["m"][1][::-1]),
                  ("barred", [("name", "a")] + good["m"][1][1:]), ("barred", [("site", "b")] + good["m"][1][1:]),
                  ("barred", tuple(good["m"][1]))],
        }
        for name in others:
            for other in others[name]:
                self.assertIs(lettered_holds(self.SITES, 1, {**good, name: other}), False, other)

    def test_one_name_more_or_fewer(self):
        good = lettered(self.SITES, 1)
        self.assertIs(lettered_holds(self.SITES, 1, {**good, "new": ("under", "m")}), False)
        for name in good:
            self.assertIs(lettered_holds(self.SITES, 1, filled(good, [each for each in good if each != name])), False)
        self.assertIs(lettered_holds(self.SITES, 1, {}), False)
        self.assertIs(lettered_holds({}, 1, good), False)

    def test_another_letter(self):
        self.assertIs(lettered_holds(self.SITES, 2, lettered(self.SITES, 1)), False)

    def test_what_is_handed_in_stays_as_it_was(self):
        sites, told = copy.deepcopy(self.SITES), lettered(self.SITES, 1)
        before = copy.deepcopy(told)
        lettered_holds(sites, 1, told)
        self.assertEqual((sites, list(sites), told), (self.SITES, list(self.SITES), before))
        lettered(sites, 1)["m"][1].clear()
        lettered(sites, 1).clear()
        self.assertEqual(lettered(sites, 1), before)


if __name__ == "__main__":
    unittest.main()
