import copy
import itertools
import random
import unittest
from fractions import Fraction

from gromatic.corners import kept, kept_holds, may_pass, pieces_left
from helpers import spot

TENTH = Fraction(1, 10)


def spots(*pairs):
    """A row of spots at these pairs of numbers or Fractions."""
    return [spot(x, y) for x, y in pairs]


def turned(pairs):
    """The pairs with x and y changed for one another."""
    return [(y, x) for x, y in pairs]


def passes(row, first, last, tolerance):
    """May a piece pass, reckoned anew in Fractions."""
    pairs = [(Fraction(*x), Fraction(*y)) for x, y in row]
    start, end = pairs[first], pairs[last]
    if abs(end[0] - start[0]) < abs(end[1] - start[1]):
        pairs = turned(pairs)
        start, end = pairs[first], pairs[last]
    for along, off in pairs[first + 1:last]:
        if not min(start[0], end[0]) <= along <= max(start[0], end[0]):
            return False
        line = start[1]
        if start != end:
            line += (end[1] - start[1]) * (along - start[0]) / (end[0] - start[0])
        if abs(off - line) > tolerance:
            return False
    return True


def goes(row, tolerance, told, held):
    """Whether each piece of a list of numbers may pass and passes no held spot."""
    return all(passes(row, first, last, tolerance) and not any(first < at < last for at in held)
               for first, last in zip(told, told[1:]))


def shortest(row, tolerance, held, first=0):
    """The first of the shortest lists from a spot to the last one, found by trying all."""
    last = len(row) - 1
    if first == last:
        return [first]
    for many in range(last - first):
        for middle in itertools.combinations(range(first + 1, last), many):
            told = [first, *middle, last]
            if goes(row, tolerance, told, held):
                return told
    raise AssertionError("neighbours always may pass")


def proves(row, tolerance, told, numbers, held):
    """What kept_holds is to tell, sentence by sentence."""
    many = len(row)
    if len(numbers) != many or numbers[many - 1] != 0:
        return False
    for first, last in itertools.combinations(range(many), 2):
        if numbers[last] < numbers[first] - 1 and goes(row, tolerance, [first, last], held):
            return False
    if not told or told[0] != 0 or told[-1] != many - 1 or told != sorted(set(told)):
        return False
    return (goes(row, tolerance, told, held)
            and all(numbers[first] - numbers[last] == 1 for first, last in zip(told, told[1:])))


def chance_row(chance, many, most=4):
    """A row of spots near one another, so that some are alike and many are in line."""
    return spots(*[(Fraction(chance.randint(-most, most), chance.randint(1, 2)),
                    Fraction(chance.randint(-most, most), chance.randint(1, 2))) for at in range(many)])


class MayPass(unittest.TestCase):
    def both_ways(self, told, pairs, tolerance):
        """The piece over all pairs is told so, also backward."""
        for row in (pairs, pairs[::-1]):
            self.assertIs(may_pass(spots(*row), 0, len(row) - 1, tolerance), told)

    def test_longer_way_x(self):
        for off in (0, 2, 2 - TENTH, -2 + TENTH, -2):
            self.both_ways(True, [(0, 0), (5, 1 + off), (10, 2)], 2)
        for off in (2 + TENTH, -2 - TENTH, 3, -9):
            self.both_ways(False, [(0, 0), (5, 1 + off), (10, 2)], 2)

    def test_longer_way_y(self):
        for off in (0, 2, 2 - TENTH, -2 + TENTH, -2):
            self.both_ways(True, [(0, 0), (1 + off, 5), (2, 10)], 2)
        for off in (2 + TENTH, -2 - TENTH, 3, -9):
            self.both_ways(False, [(0, 0), (1 + off, 5), (2, 10)], 2)

    def test_the_same_both_ways_goes_by_x(self):
        # By x the spot lies in the middle and two off; by y it would lie before the first end.
        self.both_ways(True, [(0, 0), (1, -1), (4, 4)], 2)
        self.both_ways(True, [(0, 0), (1, 1), (4, -4)], 2)
        # By y it would lie within both ends, and one off.
        self.both_ways(False, [(0, 0), (-1, 0), (4, 4)], 2)
        self.both_ways(False, [(0, 0), (-1, 0), (4, -4)], 2)

    def test_before_the_first_and_behind_the_last(self):
        for beyond in ((-TENTH, 0), (10 + TENTH, 0), (-5, 0), (15, 0)):
            self.both_ways(False, [(0, 0), beyond, (10, 0)], 9)
            self.both_ways(False, turned([(0, 0), beyond, (10, 0)]), 9)
        for at in ((0, 0), (10, 0), (0, 9), (10, -9)):
            self.both_ways(True, [(0, 0), at, (10, 0)], 9)
            self.both_ways(True, turned([(0, 0), at, (10, 0)]), 9)

    def test_back_and_forth_within_both_ends(self):
        self.both_ways(True, [(0, 0), (9, 0), (1, 0), (10, 0)], 0)

    def test_both_ends_one_spot(self):
        self.both_ways(True, [(3, 3), (3, 3), (3, 3)], 0)
        for off in (2, -2, 1, 0):
            self.both_ways(True, [(3, 3), (3, 3 + off), (3, 3)], 2)
        for off in (2 + TENTH, -2 - TENTH):
            self.both_ways(False, [(3, 3), (3, 3 + off), (3, 3)], 2)
        for off in (1, -1, TENTH, -TENTH):
            self.both_ways(False, [(3, 3), (3 + off, 3), (3, 3)], 2)

    def test_nought(self):
        third = Fraction(1, 3)
        self.both_ways(True, [(0, 0), (1, third), (2, 2 * third), (3, 1)], 0)
        self.both_ways(False, [(0, 0), (1, third), (2, 2 * third + Fraction(1, 10 ** 29)), (3, 1)], 0)

    def test_neighbours(self):
        row = spots((0, 0), (9, 9), (9, 9), (-3, 5))
        for at in range(3):
            for tolerance in (0, 1, 10 ** 29):
                self.assertIs(may_pass(row, at, at + 1, tolerance), True)

    def test_within_a_row(self):
        row = spots((0, 99), (0, 0), (5, 1), (10, 0), (0, -99))
        self.assertIs(may_pass(row, 1, 3, 1), True)
        self.assertIs(may_pass(row, first=1, last=3, tolerance=0), False)
        self.assertIs(may_pass(row, 0, 3, 1), False)

    def test_each_spot_between(self):
        pairs = [(at, 0) for at in range(6)]
        self.both_ways(True, pairs, 1)
        for at in range(1, 5):
            self.both_ways(False, pairs[:at] + [(at, 2)] + pairs[at + 1:], 1)

    def test_as_reckoned_anew(self):
        chance = random.Random(16)
        told = {True: 0, False: 0}
        for turn in range(400):
            row = chance_row(chance, chance.randint(2, 6))
            first, last = sorted(chance.sample(range(len(row)), 2))
            tolerance = chance.randint(0, 3)
            told[passes(row, first, last, tolerance)] += 1
            self.assertIs(may_pass(row, first, last, tolerance), passes(row, first, last, tolerance))
        self.assertGreater(min(told.values()), 80)


class Kept(unittest.TestCase):
    def test_one_and_two(self):
        self.assertEqual((kept(spots((5, 5)), 0), pieces_left(spots((5, 5)), 0)), ([0], [0]))
        self.assertEqual((kept(spots((5, 5)), 3, held=[0, 0]), pieces_left(spots((5, 5)), 3, held=(0,))), ([0], [0]))
        for row in (spots((0, 0), (1, 1)), spots((1, 1), (1, 1))):
            for held in ((), [0], (1,), [1, 0, 1]):
                self.assertEqual(kept(row, 0, held=held), [0, 1])
                self.assertEqual(pieces_left(row, 0, held=held), [1, 0])

    def test_in_line(self):
        row = spots(*[(at, at) for at in range(9)])
        self.assertEqual(kept(row, 0), [0, 8])
        self.assertEqual(pieces_left(row, 0), [1] * 8 + [0])

    def test_a_corner(self):
        row = spots((0, 0), (2, 0), (4, 0), (4, 2), (4, 4))
        self.assertEqual(kept(row, 0), [0, 2, 4])
        self.assertEqual(pieces_left(row, 0), [2, 2, 1, 1, 0])

    def test_held(self):
        row = spots(*[(at, 0) for at in range(7)])
        self.assertEqual(kept(row, 0, held=[3]), [0, 3, 6])
        self.assertEqual(pieces_left(row, 0, held=[3]), [2, 2, 2, 1, 1, 1, 0])
        for held in ([5, 2], (2, 5), [2, 5, 2, 5, 5], (5, 0, 2, 6), [6, 5, 2, 0, 0]):
            self.assertEqual(kept(row, 0, held=held), [0, 2, 5, 6])
            self.assertEqual(pieces_left(row, 0, held=held), [3, 3, 2, 2, 2, 1, 0])
        for held in ([0], (6,), [6, 0], (), []):
            self.assertEqual(kept(row, 0, held=held), kept(row, 0))
            self.assertEqual(pieces_left(row, 0, held=held), pieces_left(row, 0))
        self.assertEqual(kept(row, 9, held=list(range(7))), [0, 1, 2, 3, 4, 5, 6])

    def test_the_lesser_number_first(self):
        # Each of the three in the middle may be the only one that is kept.
        row = spots((0, 0), (4, 0), (5, 0), (6, 0), (5, 9))
        self.assertFalse(goes(row, 2, [0, 4], ()))
        for at in (1, 2, 3):
            self.assertTrue(goes(row, 2, [0, at, 4], ()))
        self.assertEqual(kept(row, 2), [0, 1, 4])
        self.assertEqual(kept(row, 1), [0, 2, 4])
        self.assertEqual(kept(row, 0), [0, 3, 4])
        self.assertEqual(kept(row, 2, held=[3]), [0, 3, 4])

    def test_the_first_place_where_they_differ(self):
        chance = random.Random(18)
        several = 0
        for turn in range(120):
            row = chance_row(chance, 7, 3)
            told = kept(row, 2)
            others = [list(each) for each in itertools.combinations(range(7), len(told))
                      if each[0] == 0 and each[-1] == 6 and goes(row, 2, each, ())]
            self.assertEqual(told, min(others))
            several += len(others) > 1
        self.assertGreater(several, 30)

    def test_spots_that_are_alike(self):
        self.assertEqual(kept(spots((2, 2), (2, 2), (2, 2)), 0), [0, 2])
        self.assertEqual(pieces_left(spots((2, 2), (2, 2), (2, 2)), 0), [1, 1, 0])
        self.assertEqual(kept(spots((0, 0), (5, 0), (0, 0)), 1), [0, 1, 2])
        self.assertEqual(kept(spots((0, 0), (0, 5), (0, 0)), 5), [0, 2])

    def test_all_found_by_trying(self):
        chance = random.Random(17)
        for turn in range(150):
            many = chance.randint(1, 7)
            row = chance_row(chance, many)
            tolerance = chance.randint(0, 4)
            held = [chance.randrange(many) for k in range(chance.choice((0, 0, 1, 3)))]
            lists = [shortest(row, tolerance, held, first) for first in range(many)]
            self.assertEqual(kept(row, tolerance, held=held), lists[0])
            self.assertEqual(pieces_left(row, tolerance, held=tuple(held)), [len(told) - 1 for told in lists])

    def test_a_hundred_spots(self):
        row = spots(*[(at, at % 2) for at in range(100)])
        self.assertEqual(kept(row, 1), [0, 99])
        self.assertEqual(kept(row, 0), list(range(100)))
        self.assertEqual(pieces_left(row, 0), list(range(99, -1, -1)))

    def test_lists_for_their_asker_and_nothing_changed(self):
        row = spots((0, 0), (1, 0), (2, 0), (3, 3))
        held = [1, 1]
        numbers = pieces_left(row, 0, held=held)
        told = kept(row, 0, held=held)
        before = copy.deepcopy((row, held, told, numbers))
        kept_holds(row, 0, told, numbers, held=held)
        kept(row, 0, held=held).clear()
        pieces_left(row, 0, held=held).clear()
        may_pass(row, 0, 3, 0)
        self.assertEqual((row, held, told, numbers), before)
        self.assertEqual((kept(row, 0, held=held), pieces_left(row, 0, held=held)), (told, numbers))


class KeptHolds(unittest.TestCase):
    ROW = spots((0, 0), (1, 0), (2, 0), (3, 0), (3, 1), (3, 2))

    def test_of_what_is_told(self):
        chance = random.Random(19)
        for turn in range(100):
            many = chance.randint(1, 9)
            row = chance_row(chance, many)
            tolerance = chance.randint(0, 4)
            held = [chance.randrange(many) for k in range(chance.choice((0, 0, 1, 3)))]
            self.assertIs(kept_holds(row, tolerance, kept(row, tolerance, held=held),
                                     pieces_left(row, tolerance, held=held), held=held), True)

    def test_one_spot(self):
        self.assertIs(kept_holds(spots((4, 4)), 0, [0], [0]), True)
        for told, numbers in (([], [0]), ([0], []), ([0], [1]), ([0], [-1]), ([0, 0], [0]), ([1], [0]), ([0], [0, 0])):
            self.assertIs(kept_holds(spots((4, 4)), 0, told, numbers), False)

    def test_other_lists_told(self):
        numbers = pieces_left(self.ROW, 0)
        self.assertIs(kept_holds(self.ROW, 0, [0, 3, 5], numbers), True)
        for told in ([], [0], [5], [0, 5], [3, 5], [0, 3], [0, 2, 5], [0, 4, 5], [0, 3, 4, 5], [0, 1, 3, 5], [0, 3, 3, 5],
                     [0, 3, 5, 5], [0, 0, 3, 5], [5, 3, 0], [0, 5, 3], [0, 3, 2, 5], [1, 3, 5], [-1, 3, 5], [0, 3, 6],
                     [0, -3, 5], [0, 99, 5], [0, 3, 99, 5], [0, 3, -1], [0, 3, 5, 0], [-6, 3, 5]):
            self.assertIs(kept_holds(self.ROW, 0, told, numbers), False, told)

    def test_other_numbers(self):
        good = pieces_left(self.ROW, 0)
        self.assertEqual(good, [2, 2, 2, 1, 1, 0])
        for numbers in ([], good[:-1], good[1:], [*good, 0], [2, *good], [0], [1, 2, 2, 1, 1, 0], [3, 2, 2, 1, 1, 0],
                        [2, 2, 2, 1, 1, 1], [2, 2, 2, 1, 1, -1], [2, 2, 2, 1, 2, 0], [2, 3, 2, 1, 1, 0],
                        [3, 3, 3, 2, 2, 1], [2, 2, 2, 0, 1, 0], [0, 0, 0, 0, 0, 0]):
            self.assertIs(kept_holds(self.ROW, 0, [0, 3, 5], numbers), False, numbers)

    def test_numbers_that_prove_it_too(self):
        # The document asks these numbers only to fall by no more than 1, off the list that is told.
        self.assertIs(kept_holds(self.ROW, 0, [0, 3, 5], [2, 1, 1, 1, 0, 0]), True)

    def test_numbers_that_fall_by_more_than_1(self):
        row = spots((0, 0), (1, 0), (2, 0))
        self.assertIs(kept_holds(row, 0, [0, 1, 2], [2, 1, 0]), False)
        self.assertIs(kept_holds(row, 0, [0, 1, 2], [2, 1, 0], held=[1]), True)
        self.assertIs(kept_holds(row, 0, [0, 2], [1, 2, 0]), False)

    def test_a_piece_that_may_not_pass(self):
        row = spots((0, 0), (1, 1), (2, 0))
        self.assertIs(kept_holds(row, 1, [0, 2], [1, 1, 0]), True)
        self.assertIs(kept_holds(row, 0, [0, 2], [1, 1, 0]), False)

    def test_a_piece_that_passes_a_held_spot(self):
        row = spots((0, 0), (1, 0), (2, 0))
        self.assertIs(kept_holds(row, 0, [0, 2], [1, 1, 0]), True)
        for held in ([1], (1,), [1, 0, 2, 1]):
            self.assertIs(kept_holds(row, 0, [0, 2], [1, 1, 0], held=held), False)
        self.assertIs(kept_holds(row, 0, [0, 2], [1, 1, 0], held=[0, 2]), True)

    def test_another_list_as_short(self):
        row = spots((0, 0), (4, 0), (5, 0), (6, 0), (5, 9))
        numbers = pieces_left(row, 2)
        for at in (1, 2, 3):
            self.assertIs(kept_holds(row, 2, [0, at, 4], numbers), True)
        self.assertIs(kept_holds(row, 2, [0, 1, 3, 4], numbers), False)
        self.assertIs(kept_holds(row, 2, [0, 4], numbers), False)

    def test_as_the_sentences_say(self):
        chance = random.Random(20)
        told_so = {True: 0, False: 0}
        for turn in range(600):
            many = chance.randint(1, 6)
            row = chance_row(chance, many)
            tolerance = chance.randint(0, 6)
            held = [chance.randrange(many) for k in range(chance.choice((0, 1)))]
            told, numbers = kept(row, tolerance, held=held), pieces_left(row, tolerance, held=held)
            changed = chance.choice((told, numbers))
            deed = chance.randrange(5)
            if deed > 2:
                numbers = [number - (at not in told and chance.randrange(2)) for at, number in enumerate(numbers)]
            elif deed == 0:
                changed[chance.randrange(len(changed))] += chance.choice((-2, -1, 1, 2))
            elif deed == 1:
                changed.insert(chance.randint(0, len(changed)), chance.randint(-1, many))
            else:
                del changed[chance.randrange(len(changed))]
            truth = proves(row, tolerance, told, numbers, held)
            told_so[truth] += 1
            self.assertIs(kept_holds(row, tolerance, told, numbers, held=held), truth)
        self.assertGreater(min(told_so.values()), 20)


if __name__ == "__main__":
    unittest.main()
