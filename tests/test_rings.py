import itertools
import random
import unittest

from gromatic.errors import BadReading, NoReading
from gromatic.rings import closing, forest, ring, rings
from gromatic.survey import Survey
from helpers import filled, refuse

MARKS = {"a": (0, 0), "b": None, "c": None, "d": None, "e": None, "f": None}
READINGS = {
    2: ("a", "b", 1, 10, 1), 3: ("c", "b", 2, 20, 1), 5: ("c", "d", 3, 30, 1), 6: ("a", "d", 4, 40, 1),
    8: ("b", "a", 5, 50, 1), 11: ("e", "f", 6, 60, 1), 12: ("e", "f", 7, 70, 1), 30: ("d", "b", 8, 80, 1),
}
TOLD = Survey(MARKS, READINGS)


class Forest(unittest.TestCase):
    def test_by_rising_numbers(self):
        self.assertEqual(forest(TOLD), [2, 3, 5, 11])

    def test_whatever_the_order_of_the_dict(self):
        readings = {2: ("a", "b", 0, 0, 1), 10: ("b", "c", 0, 0, 1), 9: ("c", "a", 0, 0, 1), 1: ("d", "c", 0, 0, 1)}
        for keys in itertools.permutations(readings):
            self.assertEqual(forest(Survey(MARKS, filled(readings, keys))), [1, 2, 9])

    def test_without_readings(self):
        self.assertEqual(forest(Survey(MARKS, {})), [])
        self.assertEqual(forest(Survey({}, {})), [])

    def test_two_readings_of_the_same_marks(self):
        self.assertEqual(forest(Survey(MARKS, {4: ("b", "a", 0, 0, 1), 3: ("a", "b", 0, 0, 1)})), [3])


class Ring(unittest.TestCase):
    def test_numbers_and_signs(self):
        self.assertEqual(ring(TOLD, 6), [(6, 1), (5, -1), (3, 1), (2, -1)])
        self.assertEqual(ring(TOLD, 30), [(30, 1), (3, -1), (5, 1)])

    def test_two_readings_of_the_same_marks(self):
        self.assertEqual(ring(TOLD, 8), [(8, 1), (2, 1)])
        self.assertEqual(ring(TOLD, 12), [(12, 1), (11, -1)])

    def test_the_fixed_marks_tie_nothing(self):
        survey = Survey({"a": (0, 0), "b": (1, 1)}, {1: ("a", "b", 1, 1, 1)})
        self.assertEqual((forest(survey), rings(survey)), ([1], []))

    def test_refused(self):
        for number in (1, 0, -2, 7, 10 ** 29, True, False):
            refuse(self, NoReading, {"number": number}, ring, TOLD, number)
        for number in (2, 3, 5, 11):
            refuse(self, BadReading, {"number": number}, ring, TOLD, number)

    def test_true_is_no_number(self):
        survey = Survey(MARKS, {1: ("a", "b", 0, 0, 1), 2: ("a", "b", 0, 0, 1)})
        refuse(self, BadReading, {"number": 1}, ring, survey, 1)
        refuse(self, NoReading, {"number": True}, ring, survey, True)

    def test_each_ring_leads_round(self):
        chance = random.Random(10)
        names = list("abcdefgh")
        for turn in range(60):
            readings = {number: (*chance.sample(names, 2), chance.randint(-9, 9), chance.randint(-9, 9), 1)
                        for number in chance.sample(range(1, 60), chance.randint(0, 16))}
            survey = Survey({name: None for name in names}, readings)
            trees = forest(survey)
            self.assertEqual(trees, self.plain_forest(readings))
            for number in readings:
                if number not in trees:
                    self.check_ring(readings, trees, number, ring(survey, number))

    def plain_forest(self, readings):
        told = []
        for number in sorted(readings):
            marks = {name: None for name in "abcdefgh"}
            lesser = Survey(marks, {k: readings[k] for k in readings if k < number})
            if not any(set(readings[number][:2]) <= set(piece) for piece in lesser.pieces()):
                told.append(number)
        return told

    def check_ring(self, readings, trees, number, row):
        self.assertEqual(row[0], (number, 1))
        self.assertEqual(len({k for k, sign in row}), len(row))
        here = readings[number][1]
        for k, sign in row[1:]:
            self.assertIn(k, trees)
            begin, end = readings[k][:2] if sign == 1 else readings[k][1::-1]
            self.assertEqual(begin, here)
            here = end
        self.assertEqual(here, readings[number][0])


class Closing(unittest.TestCase):
    def test_of_a_ring(self):
        self.assertEqual(closing(TOLD, ring(TOLD, 6)), (4 - 3 + 2 - 1, 40 - 30 + 20 - 10))
        self.assertEqual(closing(TOLD, ring(TOLD, 12)), (1, 10))

    def test_of_the_empty_row(self):
        self.assertEqual(closing(TOLD, []), (0, 0))
        self.assertEqual(closing(Survey({}, {}), []), (0, 0))

    def test_of_a_number_more_than_once(self):
        self.assertEqual(closing(TOLD, [(2, 1), (2, 1), (30, -1), (2, 1)]), (-5, -50))
        self.assertEqual(closing(TOLD, [(2, 1), (2, -1)]), (0, 0))

    def test_refused(self):
        refuse(self, NoReading, {"number": 7}, closing, TOLD, [(2, 1), (7, 1), (9, 1)])
        refuse(self, NoReading, {"number": 9}, closing, TOLD, [(9, -1), (7, 1)])
        survey = Survey(MARKS, {1: ("a", "b", 0, 0, 1)})
        refuse(self, NoReading, {"number": True}, closing, survey, [(1, 1), (True, 1)])

    def test_the_row_stays(self):
        row = [(2, 1), (3, -1)]
        closing(TOLD, row)
        self.assertEqual(row, [(2, 1), (3, -1)])


class Rings(unittest.TestCase):
    def test_by_rising_numbers(self):
        self.assertEqual(rings(TOLD), [ring(TOLD, 6), ring(TOLD, 8), ring(TOLD, 12), ring(TOLD, 30)])
        self.assertEqual(rings(Survey(MARKS, filled(READINGS, sorted(READINGS, reverse=True)))), rings(TOLD))

    def test_none(self):
        self.assertEqual(rings(Survey(MARKS, {})), [])
        self.assertEqual(rings(Survey(MARKS, {2: READINGS[2], 3: READINGS[3]})), [])

    def test_the_lists_are_the_askers(self):
        before = rings(TOLD)
        for told in (rings(TOLD), forest(TOLD), ring(TOLD, 6), *rings(TOLD)):
            told.clear()
        self.assertEqual(rings(TOLD), before)
        self.assertEqual(forest(TOLD), [2, 3, 5, 11])


if __name__ == "__main__":
    unittest.main()
