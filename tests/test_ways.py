import copy
import itertools
import random
import unittest
from fractions import Fraction

from gromatic.errors import Loose, NoMark, NoWay
from gromatic.land import Land
from gromatic.ways import joins, way, way_holds
from helpers import as_ratio, chance_land, filled, fraction, refuse, spot

NOUGHT = (0, 1)


def land_of(places, *roads, lines=None, sites=None):
    """A land of marks at these places, with a road for each word of marks."""
    lines = {**{"road" + "abcdefgh"[at]: ("road", tuple(word)) for at, word in enumerate(roads)}, **(lines or {})}
    return Land({name: spot(*places[name]) for name in places}, lines, sites or {})


def near_of(land):
    """For each mark the marks that it is joined with and the lengths, as Fractions."""
    near = {name: {} for name in land.spots()}
    for (one, other), length in joins(land).items():
        near[one][other] = near[other][one] = fraction(length)
    return near


def all_ways(near, marks, goal):
    """All ways from the last of the marks to a goal in which no mark stands twice."""
    if marks[-1] == goal:
        yield marks
        return
    for mark in near[marks[-1]]:
        if mark not in marks:
            yield from all_ways(near, marks + [mark], goal)


def best_way(near, start, goal):
    """The pair (length, marks) that is told first, by trying all ways; None where there is none."""
    told = [(sum(near[one][other] for one, other in zip(marks, marks[1:])), len(marks), marks)
            for marks in all_ways(near, [start], goal)]
    return (min(told)[0], min(told)[2]) if told else None


def holds_anew(land, start, goal, told):
    """Whether a tuple shows a shortest way, sentence by sentence."""
    length, marks, prices = told
    near = near_of(land)
    is_way = (bool(marks) and marks[0] == start and marks[-1] == goal and all(mark in near for mark in marks)
              and all(other in near[one] for one, other in zip(marks, marks[1:])))
    if not is_way or sum(near[one][other] for one, other in zip(marks, marks[1:])) != fraction(length):
        return False
    if prices.get(start) != NOUGHT or prices.get(goal) != length:
        return False
    for one in near:
        for other in near[one]:
            if (one in prices) != (other in prices):
                return False
            if one in prices and abs(fraction(prices[one]) - fraction(prices[other])) > near[one][other]:
                return False
    return True


class Joins(unittest.TestCase):
    def test_lengths(self):
        land = land_of({"a": (0, 0), "b": (3, -4), "c": (Fraction(1, 2), Fraction(1, 3))}, "bac")
        self.assertEqual(joins(land), {("a", "b"): (7, 1), ("a", "c"): (5, 6)})

    def test_the_lesser_name_first(self):
        land = land_of({"b": (0, 0), "a": (1, 0), "ab": (2, 0)}, ("b", "ab", "a"))
        self.assertEqual(joins(land), {("ab", "b"): (2, 1), ("a", "ab"): (1, 1)})

    def test_only_known_roads(self):
        places = {name: (at, 0) for at, name in enumerate("abcde")}
        lines = {"s": ("shore", ("a", "b")), "t": ("border", ("b", "c")), "u": ("road", ("c", "d", "z")),
                 "v": ("road", ("d", "e"))}
        self.assertEqual(joins(land_of(places, lines=lines)), {("d", "e"): (1, 1)})
        self.assertEqual(joins(land_of({})), {})

    def test_gone_twice(self):
        self.assertEqual(joins(land_of({"a": (0, 0), "b": (5, 0)}, "aba", "ba")), {("a", "b"): (5, 1)})

    def test_marks_at_one_spot(self):
        self.assertEqual(joins(land_of({"a": (5, 5), "b": (5, 5)}, "ab")), {("a", "b"): NOUGHT})

    def test_for_their_asker(self):
        land = land_of({"a": (0, 0), "b": (5, 0)}, "ab")
        joins(land).clear()
        self.assertEqual(joins(land), {("a", "b"): (5, 1)})


class Way(unittest.TestCase):
    SQUARE = {"a": (0, 0), "b": (4, 0), "c": (4, 4), "d": (0, 4)}

    def test_one_road(self):
        land = land_of({"a": (0, 0), "b": (3, 0), "c": (3, 4)}, "abc")
        self.assertEqual(way(land, "a", "c"), ((7, 1), ["a", "b", "c"], {"a": NOUGHT, "b": (3, 1), "c": (7, 1)}))
        self.assertEqual(way(land, "c", "a"), ((7, 1), ["c", "b", "a"], {"a": (7, 1), "b": (4, 1), "c": NOUGHT}))
        self.assertIs(type(way(land, "a", "c")), tuple)
        self.assertEqual(way(goal="b", start="a", land=land)[:2], ((3, 1), ["a", "b"]))

    def test_the_shortest_though_of_more_marks(self):
        places = {"a": (0, 0), "b": (10, 0), "c": (10, 10), "m": (-5, 20), "n": (5, 5)}
        self.assertEqual(way(land_of(places, "amc", "anc"), "a", "c")[:2], ((20, 1), ["a", "n", "c"]))
        self.assertEqual(way(land_of(places, "amc", "anbc"), "a", "c")[:2], ((30, 1), ["a", "n", "b", "c"]))

    def test_of_several_as_short_the_one_of_fewest_marks(self):
        places = {"a": (0, 0), "b": (1, 0), "c": (2, 0), "d": (3, 0), "z": (2, 0)}
        land = land_of(places, "abcd", "azd")
        self.assertEqual(way(land, "a", "d"), ((3, 1), ["a", "z", "d"],
                                               {"a": NOUGHT, "b": (1, 1), "c": (2, 1), "d": (3, 1), "z": (2, 1)}))
        self.assertEqual(way(land_of(places, "abcd", "ad"), "a", "d")[1], ["a", "d"])

    def test_fewest_marks_where_a_longer_list_is_found_first(self):
        places = {"a": (1, 1), "b": (3, 2), "c": (3, 0), "d": (3, 2), "e": (2, 0), "f": (1, 1), "g": (1, 0)}
        land = land_of(places, "bfega", "aecgf", "db", "dc")
        self.assertEqual(way(land, "a", "b")[:2], ((5, 1), ["a", "g", "f", "b"]))
        self.assertEqual(best_way(near_of(land), "a", "b"), (5, ["a", "g", "f", "b"]))

    def test_of_as_many_marks_the_first_by_names(self):
        self.assertEqual(way(land_of(self.SQUARE, "abcda"), "a", "c")[:2], ((8, 1), ["a", "b", "c"]))
        self.assertEqual(way(land_of(self.SQUARE, "abcda"), "c", "a")[:2], ((8, 1), ["c", "b", "a"]))
        self.assertEqual(way(land_of(self.SQUARE, "abcda"), "d", "b")[:2], ((8, 1), ["d", "a", "b"]))

    def test_by_names_in_order_of_the_way(self):
        # Seen from the goal the other way would be the first one.
        places = {"s": (0, 0), "b": (1, 0), "y": (2, 0), "c": (0, 1), "a": (0, 2), "t": (2, 2)}
        land = land_of(places, "sbyt", "scat")
        self.assertEqual(way(land, "s", "t")[:2], ((4, 1), ["s", "b", "y", "t"]))
        self.assertEqual(way(land, "t", "s")[:2], ((4, 1), ["t", "a", "c", "s"]))

    def test_marks_at_one_spot(self):
        places = {name: (5, 5) for name in "abcd"}
        land = land_of(places, "abcd", "db")
        self.assertEqual(way(land, "a", "d"), (NOUGHT, ["a", "b", "d"], {name: NOUGHT for name in "abcd"}))
        self.assertEqual(way(land, "a", "a")[:2], (NOUGHT, ["a"]))

    def test_a_mark_to_itself(self):
        land = land_of({**self.SQUARE, "x": (9, 9)}, "abcd")
        self.assertEqual(way(land, "x", "x"), (NOUGHT, ["x"], {"x": NOUGHT}))
        self.assertEqual(way(land, "b", "b"), (NOUGHT, ["b"], {"a": (4, 1), "b": NOUGHT, "c": (4, 1), "d": (8, 1)}))

    def test_prices_only_of_what_can_be_come_to(self):
        land = land_of({**self.SQUARE, "x": (9, 9), "y": (9, 8), "z": (1, 1)}, "abc", "xy")
        self.assertEqual(way(land, "a", "b")[2], {"a": NOUGHT, "b": (4, 1), "c": (8, 1)})

    def test_no_mark(self):
        land = land_of(self.SQUARE, "abcd", lines={"l": ("shore", ("a", "p"))}, sites={"s": ("q", 1)})
        for name in ("none", "", "s", "l", "roada"):
            refuse(self, NoMark, {"name": name}, way, land, name, "a")
            refuse(self, NoMark, {"name": name}, way, land, "a", name)
            refuse(self, NoMark, {"name": name}, way, land, name, "p")
            refuse(self, NoMark, {"name": name}, way, land, name, name)

    def test_loose(self):
        land = land_of(self.SQUARE, "abcd", lines={"l": ("shore", ("a", "p"))}, sites={"s": ("q", 1)})
        for name in ("p", "q"):
            refuse(self, Loose, {"name": name}, way, land, name, "a")
            refuse(self, Loose, {"name": name}, way, land, "a", name)
            refuse(self, Loose, {"name": name}, way, land, name, name)
            # The start is looked at with all that may be wrong with it ahead of the goal.
            refuse(self, Loose, {"name": name}, way, land, name, "none")
        refuse(self, Loose, {"name": "p"}, way, land, "p", "q")
        refuse(self, Loose, {"name": "q"}, way, land, "q", "p")

    def test_no_way(self):
        places = {**self.SQUARE, "x": (9, 9), "y": (9, 8), "z": (1, 1)}
        land = land_of(places, "cba", "yx", lines={"s": ("shore", ("a", "d")), "u": ("road", ("a", "x", "lost"))})
        for goal in ("d", "x", "z"):
            refuse(self, NoWay, {"side": ["a", "b", "c"]}, way, land, "c", goal)
        refuse(self, NoWay, {"side": ["x", "y"]}, way, land, "x", "a")
        refuse(self, NoWay, {"side": ["z"]}, way, land, "z", "a")
        refuse(self, NoWay, {"side": ["d"]}, way, land, "d", "z")

    def test_by_trying_all_ways(self):
        chance = random.Random(33)
        seen = {"none": 0, "tie": 0, "several": 0}
        for turn in range(120):
            land = self.chance_grid(chance)
            near = near_of(land)
            start, goal = chance.choice(sorted(near)), chance.choice(sorted(near))
            best = best_way(near, start, goal)
            reached = {mark: best_way(near, start, mark) for mark in near}
            if best is None:
                seen["none"] += 1
                refuse(self, NoWay, {"side": sorted(mark for mark in near if reached[mark])}, way, land, start, goal)
                continue
            lengths = [sum(near[one][other] for one, other in zip(marks, marks[1:])) for marks in all_ways(near, [start], goal)]
            seen["several"] += len(lengths) > 1
            seen["tie"] += lengths.count(best[0]) > 1
            self.assertEqual(way(land, start, goal), (as_ratio(best[0]), best[1],
                                                      {mark: as_ratio(reached[mark][0]) for mark in near if reached[mark]}))
            self.assertIs(way_holds(land, start, goal, way(land, start, goal)), True)
        self.assertGreater(min(seen.values()), 10)

    def chance_grid(self, chance):
        """A land whose marks stand on a small grid, so that many ways are as long as one another."""
        names = "abcdefgh"
        places = {name: (chance.randint(0, 2), chance.randint(0, 2)) for name in names}
        words = [chance.sample(names, chance.randint(2, 5)) for k in range(chance.randint(1, 4))]
        return land_of(places, *words)

    def test_whatever_the_order_of_the_dicts(self):
        spots = {name: spot(*self.SQUARE[name]) for name in self.SQUARE}
        lines = {"p": ("road", ("a", "b")), "q": ("road", ("d", "a")), "r": ("road", ("c", "d")), "s": ("road", ("b", "c"))}
        for names in itertools.permutations(lines):
            told = way(Land(filled(spots, "dcba"), filled(lines, names), {}), "a", "c")
            self.assertEqual(told[:2], ((8, 1), ["a", "b", "c"]))

    def test_for_its_asker(self):
        land = land_of(self.SQUARE, "abcda")
        before = copy.deepcopy(way(land, "a", "c"))
        told = way(land, "a", "c")
        told[1].clear()
        told[2].clear()
        self.assertEqual(way(land, "a", "c"), before)
        with self.assertRaises(NoWay) as caught:
            way(land_of({**self.SQUARE, "x": (9, 9)}, "ab"), "a", "x")
        caught.exception.side.clear()
        self.assertEqual(land, land_of(self.SQUARE, "abcda"))


class WayHolds(unittest.TestCase):
    PLACES = {"a": (0, 0), "b": (4, 0), "c": (4, 4), "d": (0, 4), "e": (9, 9), "x": (20, 20), "y": (20, 21), "z": (30, 30)}
    LAND = land_of(PLACES, "abcda", "ce", "xy", sites={"s": ("lost", 1)})
    GOOD = ((8, 1), ["a", "b", "c"], {"a": NOUGHT, "b": (4, 1), "c": (8, 1), "d": (4, 1), "e": (18, 1)})

    def told(self, truth, *, start="a", goal="c", length=GOOD[0], marks=GOOD[1], prices=GOOD[2]):
        told = (length, list(marks), dict(prices))
        self.assertIs(way_holds(self.LAND, start, goal, told), truth)
        self.assertIs(holds_anew(self.LAND, start, goal, told), truth)

    def test_of_what_way_tells(self):
        self.assertEqual(way(self.LAND, "a", "c"), self.GOOD)
        self.told(True)
        for start, goal in itertools.product("abcde", repeat=2):
            self.assertIs(way_holds(self.LAND, start, goal, way(self.LAND, start, goal)), True)
        self.assertIs(way_holds(told=way(self.LAND, "z", "z"), goal="z", start="z", land=self.LAND), True)

    def test_another_length(self):
        for length in ((7, 1), (9, 1), NOUGHT, (-8, 1), (17, 2)):
            self.told(False, length=length)
            self.told(False, length=length, prices={**self.GOOD[2], "c": length})

    def test_a_tuple_of_more_or_fewer_things(self):
        for told in ((), self.GOOD[:1], self.GOOD[:2], (*self.GOOD, 1)):
            self.assertIs(way_holds(self.LAND, "a", "c", told), False)

    def test_other_marks(self):
        self.told(True, marks="adc")
        for marks in ("", "a", "c", "ab", "bc", "ac", "abdc", "aabc", "abcc", "abcbc", "ababc", "cba", "abe", "ebc", "azc",
                      ["a", "none", "c"], ["none"], "abc" * 2, "abced"):
            self.told(False, marks=marks)

    def test_another_start_or_goal(self):
        self.told(False, start="b")
        self.told(False, goal="b")
        self.told(False, start="c", goal="a")
        self.told(False, start="none")
        self.told(False, goal="none")
        self.told(False, start="c", goal="a", marks="cba")
        self.told(True, start="c", goal="a", marks="cba", prices={"a": (8, 1), "b": (4, 1), "c": NOUGHT, "d": (4, 1), "e": (9, 1)})

    def test_other_prices(self):
        for name in "abcde":
            self.told(False, prices={each: self.GOOD[2][each] for each in "abcde" if each != name})
            self.told(False, prices={**self.GOOD[2], name: (99, 1)})
            self.told(False, prices={**self.GOOD[2], name: (-99, 1)})
        self.told(False, prices={})
        self.told(False, prices={"a": NOUGHT, "c": (8, 1)})
        self.told(False, prices={name: NOUGHT for name in "abcde"})
        self.told(False, prices={**self.GOOD[2], "a": (1, 1)})
        self.told(False, prices={**self.GOOD[2], "b": (5, 1)})
        self.told(False, prices={**self.GOOD[2], "b": (3, 1)})
        self.told(False, prices={**self.GOOD[2], "e": (37, 2)})

    def test_prices_that_only_differ_by_no_more(self):
        self.told(True, prices={**self.GOOD[2], "e": (0, 1)})
        self.told(True, prices={**self.GOOD[2], "e": (-2, 1)})
        self.told(False, prices={**self.GOOD[2], "e": (-21, 10)})

    def test_joins_that_cannot_be_come_to(self):
        self.told(True, prices={**self.GOOD[2], "x": (7, 1), "y": (6, 1)})
        self.told(True, prices={**self.GOOD[2], "x": (7, 1), "y": (8, 1)})
        self.told(False, prices={**self.GOOD[2], "x": (7, 1)})
        self.told(False, prices={**self.GOOD[2], "y": (7, 1)})
        self.told(False, prices={**self.GOOD[2], "x": (7, 1), "y": (9, 1)})

    def test_prices_of_marks_in_no_join(self):
        self.told(True, prices={**self.GOOD[2], "z": (5, 1), "none": (-5, 1), "lost": NOUGHT})

    def test_a_mark_alone(self):
        self.told(True, start="z", goal="z", length=NOUGHT, marks="z", prices={"z": NOUGHT})
        self.told(False, start="z", goal="z", length=NOUGHT, marks="z", prices={})
        self.told(False, start="z", goal="z", length=(1, 1), marks="z", prices={"z": (1, 1)})
        self.told(False, start="z", goal="z", length=NOUGHT, marks="", prices={"z": NOUGHT})
        for name in ("lost", "none"):
            self.told(False, start=name, goal=name, length=NOUGHT, marks=[name], prices={name: NOUGHT})

    def test_a_longer_list_from_a_mark_to_itself(self):
        land = land_of({"a": (5, 5), "b": (5, 5), "c": (6, 5)}, "abc")
        prices = {"a": NOUGHT, "b": NOUGHT, "c": (1, 1)}
        self.assertIs(way_holds(land, "a", "a", (NOUGHT, ["a", "b", "a"], prices)), True)
        self.assertIs(way_holds(land, "a", "b", (NOUGHT, ["a", "b", "a", "b"], prices)), True)
        self.assertIs(way_holds(land, "a", "a", (NOUGHT, ["a", "a"], prices)), False)
        self.assertIs(way_holds(land, "c", "c", ((2, 1), ["c", "b", "c"], {"a": (1, 1), "b": (1, 1), "c": NOUGHT})), False)
        self.assertIs(way_holds(land, "c", "c", (NOUGHT, ["c", "b", "c"], {"a": (1, 1), "b": (1, 1), "c": NOUGHT})), False)

    def test_as_the_sentences_say(self):
        chance = random.Random(34)
        told_so = {True: 0, False: 0}
        for turn in range(600):
            land = chance_land(chance, 3)
            spots = sorted(land.spots())
            start, goal = chance.choice(spots), chance.choice(spots)
            try:
                length, marks, prices = way(land, start, goal)
            except NoWay:
                continue
            deed = chance.randrange(4)
            name = chance.choice(spots)
            if deed == 0:
                marks.insert(chance.randint(0, len(marks)), name)
            elif deed == 1:
                marks[chance.randrange(len(marks))] = name
            elif deed == 2:
                prices[name] = as_ratio(fraction(prices.get(name, NOUGHT)) + Fraction(chance.randint(-3, 3), 2))
            else:
                prices.pop(name, None)
            truth = holds_anew(land, start, goal, (length, marks, prices))
            told_so[truth] += 1
            self.assertIs(way_holds(land, start, goal, (length, marks, prices)), truth)
        self.assertGreater(min(told_so.values()), 20)

    def test_nothing_is_changed(self):
        told = copy.deepcopy(self.GOOD)
        way_holds(self.LAND, "a", "c", told)
        self.assertEqual(told, self.GOOD)


if __name__ == "__main__":
    unittest.main()
