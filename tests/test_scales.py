import random
import unittest
from fractions import Fraction

from gromatic.errors import BadScale
from gromatic.scales import SIDE, Scale, drawn
from helpers import refuse, spot

BOUNDS = {"step": (1, 100), "tolerance": (0, 100), "letter": (1, 9), "side": (8, 64)}
GOOD = {"step": 4, "tolerance": 3, "letter": 2, "side": 20}


class Making(unittest.TestCase):
    def test_side(self):
        self.assertEqual(SIDE, 16)

    def test_values(self):
        scale = Scale(4, tolerance=3, letter=2, side=20)
        self.assertEqual((scale.step, scale.tolerance, scale.letter, scale.side), (4, 3, 2, 20))
        self.assertEqual(scale, Scale(**GOOD))

    def test_parts_left_out(self):
        scale = Scale(7)
        self.assertEqual((scale.step, scale.tolerance, scale.letter, scale.side), (7, 0, 1, 16))

    def test_all_but_step_are_handed_in_by_name(self):
        refuse(self, TypeError, {}, Scale, 4, 3)

    def test_at_the_bounds(self):
        for part, (low, high) in BOUNDS.items():
            for number in (low, high):
                self.assertEqual(getattr(Scale(**{**GOOD, part: number}), part), number)

    def test_just_beyond(self):
        for part, (low, high) in BOUNDS.items():
            for number in (low - 1, high + 1, -10 ** 29, 10 ** 29, True, False):
                refuse(self, BadScale, {"part": part}, Scale, **{**GOOD, part: number})

    def test_in_the_told_order(self):
        parts = list(BOUNDS)
        for at, part in enumerate(parts):
            wrong = {name: 1000 for name in parts[at:]}
            refuse(self, BadScale, {"part": part}, Scale, **{**GOOD, **wrong})
            wrong = {name: False for name in parts[at:]}
            refuse(self, BadScale, {"part": part}, Scale, **{**GOOD, **wrong})


class Telling(unittest.TestCase):
    def test_slack(self):
        self.assertEqual(Scale(4, tolerance=3).slack(), (5, 1))
        self.assertEqual(Scale(5, tolerance=3).slack(), (11, 2))
        self.assertEqual(Scale(1).slack(), (1, 2))
        self.assertEqual(Scale(100, tolerance=100).slack(), (150, 1))

    def test_alike(self):
        self.assertTrue(Scale(4) == Scale(4, tolerance=0, letter=1, side=16))
        self.assertFalse(Scale(4) != Scale(4, tolerance=0, letter=1, side=16))

    def test_others(self):
        for part in BOUNDS:
            other = Scale(**{**GOOD, part: GOOD[part] + 1})
            self.assertFalse(Scale(**GOOD) == other)
            self.assertTrue(Scale(**GOOD) != other)

    def test_things_of_another_kind(self):
        for other in (None, 4, "4 3 2 20", (4, 3, 2, 20), GOOD):
            self.assertFalse(Scale(**GOOD) == other)
            self.assertTrue(Scale(**GOOD) != other)

    def test_str_and_repr(self):
        self.assertEqual(str(Scale(4, tolerance=3)), "4 3 1 16")
        self.assertEqual(str(Scale(**GOOD)), "4 3 2 20")
        self.assertEqual(repr(Scale(4, tolerance=3)), "Scale(4)")
        self.assertEqual(repr(Scale(100)), "Scale(100)")


class Drawn(unittest.TestCase):
    def test_above_and_below_nought(self):
        self.assertEqual(drawn(spot(9, -9), 4), (2, -2))
        self.assertEqual(drawn(spot(11, -11), 4), (3, -3))
        self.assertEqual(drawn(spot(0, 0), 100), (0, 0))
        self.assertEqual(drawn(spot(Fraction(-7, 3), Fraction(7, 3)), 1), (-2, 2))

    def test_just_between_two_pairs(self):
        self.assertEqual(drawn(spot(2, -2), 4), (1, 0))
        self.assertEqual(drawn(spot(6, -6), 4), (2, -1))
        self.assertEqual(drawn(spot(Fraction(1, 2), Fraction(-1, 2)), 1), (1, 0))
        self.assertEqual(drawn(spot(Fraction(15, 2), Fraction(-15, 2)), 5), (2, -1))

    def test_the_ratio_is_not_rounded_ahead_of_the_step(self):
        self.assertEqual(drawn(spot(Fraction(19, 10), Fraction(-21, 10)), 4), (0, -1))

    def test_within_half_a_step(self):
        chance = random.Random(15)
        for turn in range(200):
            x = Fraction(chance.randint(-999, 999), chance.randint(1, 30))
            y = Fraction(chance.randint(-999, 999), chance.randint(1, 30))
            step = chance.randint(1, 100)
            i, j = drawn(spot(x, y), step)
            for place, number in ((x, i), (y, j)):
                self.assertLessEqual(-Fraction(step, 2), place - number * step)
                self.assertLess(place - number * step, Fraction(step, 2))

    def test_by_name(self):
        self.assertEqual(drawn(step=2, spot=spot(4, 6)), (2, 3))


if __name__ == "__main__":
    unittest.main()
