import itertools
import random
import unittest
from fractions import Fraction

from gromatic.tiles import cut, tile_box
from helpers import cut_anew, fraction, spot

BOX = (0, 0, 8, 8)


class Cut(unittest.TestCase):
    def both_ways(self, told, one, other, box=BOX):
        """What is told of a piece, and of the same piece from other to one."""
        back = None
        if told is not None:
            told = (spot(*told[0]), spot(*told[1]))
            back = told[::-1]
        self.assertEqual(cut(one, other, box), told)
        self.assertEqual(cut(other, one, box), back)

    def test_within(self):
        self.both_ways(((1, 2), (5, 7)), (1, 2), (5, 7))
        self.both_ways(((0, 0), (8, 8)), (0, 0), (8, 8))

    def test_across(self):
        self.both_ways(((0, 4), (8, 4)), (-5, 4), (20, 4))
        self.both_ways(((3, 0), (3, 8)), (3, -1), (3, 9))
        self.both_ways(((0, 1), (8, Fraction(11, 3))), (-3, 0), (9, 4))
        self.both_ways(((4, 4), (8, 4)), (4, 4), (20, 4))
        self.both_ways(((2, 0), (0, 2)), (3, -1), (-1, 3))

    def test_along_a_rim(self):
        self.both_ways(((0, 0), (0, 8)), (0, -3), (0, 30))
        self.both_ways(((2, 8), (8, 8)), (2, 8), (9, 8))
        self.both_ways(((8, 3), (8, 4)), (8, 3), (8, 4))
        self.both_ways(None, (0, 9), (0, 30))
        self.both_ways(((0, 8), (0, 8)), (0, 8), (0, 30))

    def test_a_corner_in_one_point(self):
        self.both_ways(((0, 0), (0, 0)), (-2, 2), (2, -2))
        self.both_ways(((8, 8), (8, 8)), (6, 10), (10, 6))
        self.both_ways(((8, 0), (8, 0)), (7, -2), (9, 2))
        self.both_ways(((0, 8), (0, 8)), (0, 8), (-4, 9))

    def test_a_rim_in_one_point(self):
        self.both_ways(((8, 5), (8, 5)), (8, 5), (12, 6))
        self.both_ways(((4, 0), (4, 0)), (4, 0), (4, -1))

    def test_without_a_point(self):
        for one, other in (((9, 0), (9, 8)), ((-1, -1), (-1, 30)), ((0, 9), (8, 9)), ((0, -1), (8, -2)),
                           ((-3, 2), (2, -3)), ((6, 11), (11, 6)), ((9, 9), (20, 20)), ((-9, 4), (-1, 4))):
            self.both_ways(None, one, other)

    def test_pieces_of_one_point(self):
        for pair in ((3, 3), (0, 0), (8, 8), (0, 5), (8, 0)):
            self.both_ways((pair, pair), pair, pair)
        for pair in ((-1, 0), (9, 8), (3, 9), (3, -1)):
            self.both_ways(None, pair, pair)

    def test_boxes_below_nought(self):
        box = (-16, -8, -8, 0)
        self.both_ways(((-16, -2), (-8, -6)), (-20, 0), (-4, -8), box)
        self.both_ways(((-8, 0), (-8, 0)), (-9, 1), (-7, -1), box)
        self.both_ways(None, (-7, -1), (7, -1), box)

    def test_a_box_of_one_point(self):
        self.both_ways(((2, 2), (2, 2)), (0, 0), (4, 4), (2, 2, 2, 2))
        self.both_ways(None, (0, 0), (4, 5), (2, 2, 2, 2))

    def test_kinds(self):
        told = cut((-3, 0), (9, 4), BOX)
        self.assertEqual(told, (((0, 1), (1, 1)), ((8, 1), (11, 3))))
        self.assertTrue(all(type(each) is tuple for each in (told, *told, *told[0], *told[1])))

    def test_as_reckoned_anew(self):
        chance = random.Random(28)
        told = {True: 0, False: 0}
        for turn in range(600):
            one, other = [(chance.randint(-12, 12), chance.randint(-12, 12)) for k in range(2)]
            left, low = chance.randint(-9, 5), chance.randint(-9, 5)
            box = (left, low, left + chance.randint(0, 9), low + chance.randint(0, 9))
            truth = cut_anew(one, other, box)
            self.assertEqual(cut(one, other, box), truth)
            told[truth is None] += 1
        self.assertGreater(min(told.values()), 100)

    def test_side_by_side_the_parts_are_the_whole(self):
        for one, other in (((-20, 3), (19, -17)), ((5, 5), (5, -5)), ((-11, -7), (13, 2))):
            parts = [cut(one, other, tile_box(key, 8)) for key in itertools.product(range(-4, 4), repeat=2)]
            spans = sorted({tuple(sorted(tuple(map(fraction, end)) for end in part)) for part in parts if part})
            long = [span for span in spans if span[0] != span[1]]
            self.assertEqual(long[0][0], min(one, other))
            self.assertEqual(long[-1][1], max(one, other))
            for before, behind in zip(long, long[1:]):
                self.assertEqual(before[1], behind[0])

    def test_by_name(self):
        self.assertEqual(cut(box=BOX, other=(2, 2), one=(1, 1)), (spot(1, 1), spot(2, 2)))


class TileBox(unittest.TestCase):
    def test_below_and_above_nought(self):
        self.assertEqual(tile_box((0, 0), 16), (0, 0, 16, 16))
        self.assertEqual(tile_box((2, 1), 8), (16, 8, 24, 16))
        self.assertEqual(tile_box((-1, -3), 10), (-10, -30, 0, -20))
        self.assertEqual(tile_box((-2, 3), 64), (-128, 192, -64, 256))
        self.assertEqual(tile_box(side=8, key=(10 ** 20, 0)), (8 * 10 ** 20, 0, 8 * 10 ** 20 + 8, 8))


if __name__ == "__main__":
    unittest.main()
