import copy
import random
import unittest
from fractions import Fraction

from gromatic.distance import apart, bare
from helpers import as_ratio, fraction, spot

TINY = Fraction(1, 10 ** 12)


def line(*pairs):
    """A polyline of spots at these pairs of numbers or Fractions."""
    return [spot(x, y) for x, y in pairs]


def fractions(one):
    """A spot as a pair of Fractions."""
    return (fraction(one[0]), fraction(one[1]))


def points(polyline, many):
    """Points of a polyline, evenly on each piece."""
    ends = [fractions(one) for one in polyline]
    for start, end in zip(ends, ends[1:] or ends):
        for k in range(many + 1):
            share = Fraction(k, many)
            yield (start[0] + share * (end[0] - start[0]), start[1] + share * (end[1] - start[1]))


def meets_square(start, end, middle, half):
    """Whether a piece has a point in the square round a middle, rims too."""
    low, high = Fraction(0), Fraction(1)
    for way in (0, 1):
        step = end[way] - start[way]
        off = start[way] - middle[way]
        if step == 0:
            if abs(off) > half:
                return False
            continue
        shares = sorted(((-half - off) / step, (half - off) / step))
        low, high = max(low, shares[0]), min(high, shares[1])
    return low <= high


def is_within(point, polyline, half):
    """Whether a point lies within half of a point of a polyline, reckoned anew."""
    if half < 0:
        return False
    ends = [fractions(one) for one in polyline]
    return any(meets_square(start, end, point, half) for start, end in zip(ends, ends[1:] or ends))


def chance_line(chance, most=6):
    """A polyline of up to four spots."""
    return line(*[(Fraction(chance.randint(-9, 9), chance.randint(1, 3)), Fraction(chance.randint(-9, 9), chance.randint(1, 3)))
                  for at in range(chance.randint(1, most))])


class Apart(unittest.TestCase):
    def test_of_one_spot(self):
        self.assertEqual(apart(spot(0, 0), line((3, -4))), (4, 1))
        self.assertEqual(apart(spot(0, 0), line((-5, 4))), (5, 1))
        self.assertEqual(apart(spot(1, Fraction(1, 2)), line((1, Fraction(1, 3)))), (1, 6))
        self.assertEqual(apart(spot(7, 7), line((7, 7))), (0, 1))

    def test_spots_that_are_alike(self):
        for many in (2, 3, 5):
            self.assertEqual(apart(spot(0, 0), line(*[(3, -4)] * many)), (4, 1))
        self.assertEqual(apart(spot(0, 0), line((3, -4), (3, -4), (-1, -4), (-1, -4))), (4, 1))

    def test_nearest_at_an_end(self):
        self.assertEqual(apart(spot(-3, 1), line((0, 0), (10, 0))), (3, 1))
        self.assertEqual(apart(spot(14, 1), line((0, 0), (10, 0))), (4, 1))
        self.assertEqual(apart(spot(0, 9), line((0, 0), (1, 5), (-9, -9))), (4, 1))

    def test_nearest_within_a_piece(self):
        self.assertEqual(apart(spot(5, 3), line((0, 0), (10, 0))), (3, 1))
        self.assertEqual(apart(spot(-3, 5), line((0, 0), (0, 10))), (3, 1))
        # On the way from (0, 0) to (4, 4) the point (2, 2) is apart by 2 both ways.
        self.assertEqual(apart(spot(0, 4), line((0, 0), (4, 4))), (2, 1))
        self.assertEqual(apart(spot(4, 4), line((0, 4), (4, 0))), (2, 1))
        self.assertEqual(apart(spot(0, 3), line((0, 0), (6, 3))), (2, 1))
        self.assertEqual(apart(spot(0, 1), line((0, 0), (2, 1))), (2, 3))

    def test_on_it(self):
        self.assertEqual(apart(spot(1, Fraction(1, 3)), line((0, 0), (3, 1))), (0, 1))
        self.assertEqual(apart(spot(3, 1), line((0, 0), (3, 1), (9, 9))), (0, 1))

    def test_the_nearest_piece(self):
        ring = line((0, 0), (10, 0), (10, 10), (0, 10), (0, 0))
        self.assertEqual(apart(spot(5, 5), ring), (5, 1))
        self.assertEqual(apart(spot(5, 8), ring), (2, 1))
        self.assertEqual(apart(spot(1, 5), ring), (1, 1))
        self.assertEqual(apart(spot(12, 13), ring), (3, 1))

    def test_as_reckoned_anew(self):
        chance = random.Random(19)
        for turn in range(300):
            polyline = chance_line(chance)
            one = chance_line(chance, 1)[0]
            told = fraction(apart(one, polyline))
            self.assertTrue(is_within(fractions(one), polyline, told))
            self.assertFalse(is_within(fractions(one), polyline, told - TINY))

    def test_large_numbers(self):
        most = 10 ** 30 - 1
        told = apart(spot(Fraction(1, most), 0), line((-most, 1), (most, 1)))
        self.assertEqual(told, (1, 1))
        self.assertEqual(apart(spot(most, most), line((-most, -most))), (2 * most, 1))


class Bare(unittest.TestCase):
    def covers(self, ones, others, slack):
        self.assertIs(bare(ones, others, as_ratio(slack)), None)

    def leaves(self, ones, others, slack):
        """A point is told that lies on ones, and farther than slack from others."""
        told = bare(ones, others, as_ratio(slack))
        self.assertIs(type(told), tuple)
        point = fractions(told)
        self.assertTrue(is_within(point, ones, 0))
        self.assertFalse(is_within(point, others, slack))

    def test_of_one_spot(self):
        self.covers(line((0, 0)), line((3, -4)), 4)
        self.leaves(line((0, 0)), line((3, -4)), 4 - TINY)
        self.covers(line((5, 3)), line((0, 0), (10, 0)), 3)
        self.leaves(line((5, 3)), line((0, 0), (10, 0)), 3 - TINY)
        self.covers(line((0, 0), (2, 0)), line((1, 1)), 1)
        self.leaves(line((0, 0), (2, 0)), line((1, 1)), 1 - TINY)

    def test_slack_nought(self):
        whole = line((0, 0), (6, 3))
        self.covers(whole, whole, 0)
        self.covers(line((2, 1), (4, 2)), whole, 0)
        self.covers(line((4, 2), (2, 1), (4, 2)), whole[::-1], 0)
        self.leaves(whole, line((2, 1), (4, 2)), 0)
        self.leaves(line((2, 1), (4, 2 + TINY)), whole, 0)
        self.covers(line((3, 3)), line((3, 3), (3, 3)), 0)
        self.leaves(line((3, 3)), line((3, 4)), 0)

    def test_pieces_that_only_together_cover(self):
        self.covers(line((0, 0), (9, 0)), line((0, 0), (3, 0), (9, 0)), 0)
        self.covers(line((0, 0), (9, 0)), line((5, 0), (9, 0), (0, 0), (5, 0)), 0)
        self.leaves(line((0, 0), (9, 0)), line((0, 0), (4, 0), (4, 5), (6, 5), (6, 0), (9, 0)), Fraction(1, 2))
        self.covers(line((0, 0), (9, 0)), line((0, 0), (4, 0), (4, 5), (6, 5), (6, 0), (9, 0)), 1)

    def test_a_gap_at_either_end_and_within(self):
        whole = line((0, 0), (10, 0))
        self.leaves(whole, line((1, 0), (10, 0)), 1 - TINY)
        self.covers(whole, line((1, 0), (10, 0)), 1)
        self.leaves(whole, line((0, 0), (9, 0)), 1 - TINY)
        self.covers(whole, line((0, 0), (9, 0)), 1)
        detour = line((0, 0), (4, 0), (5, 9), (6, 0), (10, 0))
        # The far spot at (5, 9) is of no use to the middle, its pieces are.
        self.covers(whole, detour, Fraction(9, 10))
        self.leaves(whole, detour, Fraction(9, 10) - TINY)

    def test_a_spike_of_ones(self):
        self.leaves(line((0, 0), (5, 4), (10, 0)), line((0, 0), (10, 0)), 4 - TINY)
        self.covers(line((0, 0), (5, 4), (10, 0)), line((0, 0), (10, 0)), 4)
        self.covers(line((0, 0), (10, 0)), line((0, 0), (5, 4), (10, 0)), Fraction(20, 9))
        self.leaves(line((0, 0), (10, 0)), line((0, 0), (5, 4), (10, 0)), Fraction(20, 9) - TINY)

    def test_beside_a_slanting_piece(self):
        # The corners of the box round both ends are no nearer than the piece itself.
        self.leaves(line((4, 0)), line((0, 0), (4, 4)), 2 - TINY)
        self.covers(line((4, 0)), line((0, 0), (4, 4)), 2)
        self.leaves(line((0, 4)), line((4, 4), (0, 0)), 2 - TINY)
        self.covers(line((0, 4)), line((4, 4), (0, 0)), 2)
        self.leaves(line((4, 4), (5, 5)), line((0, 4), (4, 0)), 3 - TINY)
        self.covers(line((4, 4), (5, 5)), line((0, 4), (4, 0)), 3)

    def test_ones_and_others_are_not_alike(self):
        short, whole = line((4, 0), (6, 0)), line((0, 0), (10, 0))
        self.covers(short, whole, 0)
        self.leaves(whole, short, 3)
        self.covers(whole, short, 4)

    def test_as_reckoned_anew(self):
        chance = random.Random(20)
        told = {True: 0, False: 0}
        for turn in range(400):
            ones, others = chance_line(chance, 4), chance_line(chance, 4)
            slack = Fraction(chance.randint(0, 40), chance.randint(1, 4))
            if bare(ones, others, as_ratio(slack)) is None:
                told[True] += 1
                for point in points(ones, 24):
                    self.assertTrue(is_within(point, others, slack))
            else:
                told[False] += 1
                self.leaves(ones, others, slack)
        self.assertGreater(min(told.values()), 60)

    def test_just_as_far_as_the_farthest_point(self):
        # The farthest point of a piece from a single spot is an end, so apart tells how much slack just reaches.
        chance = random.Random(21)
        for turn in range(100):
            ones, others = chance_line(chance, 4), chance_line(chance, 1)
            most = max(fraction(apart(one, others)) for one in ones)
            self.covers(ones, others, most)
            if most > 0:
                self.leaves(ones, others, most - most * TINY)

    def test_nothing_that_is_handed_in_is_changed(self):
        ones, others, slack = line((0, 0), (5, 4), (10, 0)), line((0, 0), (10, 0)), (1, 2)
        before = copy.deepcopy((ones, others, slack))
        bare(ones, others, slack)
        apart(ones[1], others)
        self.assertEqual((ones, others, slack), before)

    def test_by_name(self):
        self.assertEqual(apart(polyline=line((1, 1)), spot=spot(0, 0)), (1, 1))
        self.assertIs(bare(slack=(1, 1), others=line((1, 1)), ones=line((0, 0))), None)


if __name__ == "__main__":
    unittest.main()
