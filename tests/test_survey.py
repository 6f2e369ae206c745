import itertools
import random
import unittest

from gromatic.errors import BadName, BadNumber, BadReading, NoMark
from gromatic.survey import MOST, Survey
from helpers import filled, refuse

MARKS = {"a": (0, 0), "b": None, "c": None, "d": (5, -7)}
READINGS = {1: ("a", "b", 3, 4, 1), 2: ("c", "b", -1, 0, 9), 5: ("d", "c", 0, 2, 3)}


def one_reading(across=0, up=0, weight=1):
    return {1: ("a", "b", across, up, weight)}


class Making(unittest.TestCase):
    def test_most(self):
        self.assertEqual(MOST, 999)

    def test_made(self):
        told = Survey(MARKS, READINGS)
        self.assertEqual(told.marks(), MARKS)
        self.assertEqual(told.readings(), READINGS)
        self.assertEqual(told.names(), ["a", "b", "c", "d"])

    def test_made_by_name(self):
        self.assertEqual(Survey(readings=READINGS, marks=MARKS), Survey(MARKS, READINGS))

    def test_names_rise_whatever_the_order(self):
        for keys in itertools.permutations(MARKS):
            self.assertEqual(Survey(filled(MARKS, keys), {}).names(), ["a", "b", "c", "d"])

    def test_empty(self):
        told = Survey({}, {})
        self.assertEqual((told.marks(), told.readings(), told.names()), ({}, {}, []))
        self.assertEqual((told.pieces(), told.loose(), len(told)), ([], [], 0))

    def test_two_readings_of_the_same_marks(self):
        readings = {1: ("a", "b", 0, 0, 1), 2: ("b", "a", 0, 0, 1), 3: ("a", "b", 0, 0, 1)}
        self.assertEqual(Survey(MARKS, readings).readings(), readings)

    def test_great_reading_numbers(self):
        readings = {10 ** 29: ("a", "b", 0, 0, 1)}
        self.assertEqual(Survey(MARKS, readings).readings(), readings)


class Refusing(unittest.TestCase):
    def test_names_at_the_bound(self):
        for name in ("a", "z", "abcdef", "zzzzzz"):
            self.assertEqual(Survey({name: None}, {}).names(), [name])

    def test_bad_names(self):
        for name in ("", "abcdefg", "A", "aB", "a1", "a b", " a", "a\n", "a-b", "a_b", "`", "{", "\u00e9", "\u0430"):
            refuse(self, BadName, {"name": name}, Survey, {name: None}, {})
            refuse(self, BadName, {"name": name}, Survey, {name: (0, 0)}, {})

    def test_places_at_the_bound(self):
        for at in itertools.product((-MOST, MOST), (-MOST, MOST)):
            self.assertEqual(Survey({"a": at}, {}).marks(), {"a": at})

    def test_places_beyond(self):
        for number in (MOST + 1, -MOST - 1, 10 ** 30 - 1, True, False):
            refuse(self, BadNumber, {"number": number}, Survey, {"a": (number, 0)}, {})
            refuse(self, BadNumber, {"number": number}, Survey, {"a": (0, number)}, {})

    def test_first_number_ahead_of_second(self):
        refuse(self, BadNumber, {"number": 1001}, Survey, {"a": (1001, 1002)}, {})
        refuse(self, BadNumber, {"number": False}, Survey, {"a": (False, True)}, {})

    def test_no_mark(self):
        refuse(self, NoMark, {"name": "x"}, Survey, MARKS, {1: ("x", "b", 0, 0, 1)})
        refuse(self, NoMark, {"name": "x"}, Survey, MARKS, {1: ("a", "x", 0, 0, 1)})
        refuse(self, NoMark, {"name": "x"}, Survey, MARKS, {1: ("x", "y", 0, 0, 1)})
        refuse(self, NoMark, {"name": "x"}, Survey, MARKS, {1: ("x", "x", 0, 0, 1)})
        refuse(self, NoMark, {"name": "a"}, Survey, {}, {1: ("a", "b", 0, 0, 1)})

    def test_bad_reading(self):
        refuse(self, BadReading, {"number": 7}, Survey, MARKS, {7: ("b", "b", 0, 0, 1)})
        refuse(self, BadReading, {"number": 7}, Survey, MARKS, {7: ("a", "a", 1000, 1000, 0)})

    def test_reading_numbers_at_the_bound(self):
        for across, up, weight in itertools.product((-MOST, MOST), (-MOST, MOST), (1, 9)):
            readings = one_reading(across, up, weight)
            self.assertEqual(Survey(MARKS, readings).readings(), readings)

    def test_reading_numbers_beyond(self):
        for number in (MOST + 1, -MOST - 1, 10 ** 30 - 1, True, False):
            refuse(self, BadNumber, {"number": number}, Survey, MARKS, one_reading(across=number))
            refuse(self, BadNumber, {"number": number}, Survey, MARKS, one_reading(up=number))
        for number in (0, 10, -1, 10 ** 30 - 1, True, False):
            refuse(self, BadNumber, {"number": number}, Survey, MARKS, one_reading(weight=number))

    def test_across_then_up_then_weight(self):
        refuse(self, BadNumber, {"number": 1001}, Survey, MARKS, one_reading(1001, 1002, 10))
        refuse(self, BadNumber, {"number": 1002}, Survey, MARKS, one_reading(0, 1002, 10))
        refuse(self, BadNumber, {"number": 10}, Survey, MARKS, one_reading(0, 0, 10))

    def test_a_refused_survey_changes_nothing_handed_in(self):
        marks, readings = dict(MARKS), {1: ("a", "a", 0, 0, 1)}
        refuse(self, BadReading, {"number": 1}, Survey, marks, readings)
        self.assertEqual((marks, readings), (MARKS, {1: ("a", "a", 0, 0, 1)}))


class OrderOfRefusals(unittest.TestCase):
    def test_marks_by_rising_names(self):
        marks = {"b": (1001, 0), "a": None, "c": (1002, 0), "d1": None}
        for keys in itertools.permutations(marks):
            refuse(self, BadNumber, {"number": 1001}, Survey, filled(marks, keys), {})

    def test_each_mark_by_all_that_may_be_wrong(self):
        marks = {"b": (1001, 0), "c1": None}
        for keys in itertools.permutations(marks):
            refuse(self, BadNumber, {"number": 1001}, Survey, filled(marks, keys), {})
        marks = {"b": (1001, 0), "a1": (1002, 0)}
        for keys in itertools.permutations(marks):
            refuse(self, BadName, {"name": "a1"}, Survey, filled(marks, keys), {})

    def test_marks_ahead_of_readings(self):
        refuse(self, BadNumber, {"number": 1001}, Survey, {"z": (1001, 0)}, {1: ("x", "y", 0, 0, 1)})

    def test_readings_by_rising_numbers(self):
        readings = {1: ("a", "b", 0, 0, 1), 3: ("b", "b", 0, 0, 1), 12: ("x", "b", 0, 0, 1),
                    20: ("a", "b", 1001, 0, 1)}
        for keys in itertools.permutations(readings):
            refuse(self, BadReading, {"number": 3}, Survey, MARKS, filled(readings, keys))

    def test_each_reading_by_all_that_may_be_wrong(self):
        readings = {9: ("a", "b", 0, 0, 10), 10: ("x", "b", 0, 0, 1)}
        for keys in itertools.permutations(readings):
            refuse(self, BadNumber, {"number": 10}, Survey, MARKS, filled(readings, keys))


class Copies(unittest.TestCase):
    def test_what_was_handed_in(self):
        marks, readings = dict(MARKS), dict(READINGS)
        told = Survey(marks, readings)
        marks["a"] = (9, 9)
        del marks["d"]
        readings.clear()
        self.assertEqual((told.marks(), told.readings()), (MARKS, READINGS))

    def test_what_was_told(self):
        told = Survey(MARKS, READINGS)
        told.marks()["a"] = None
        told.readings().clear()
        told.names().clear()
        for piece in told.pieces():
            piece.clear()
        told.pieces().clear()
        told.loose().append("a")
        self.assertEqual((told.marks(), told.readings()), (MARKS, READINGS))
        self.assertEqual(told.names(), ["a", "b", "c", "d"])
        self.assertEqual((told.pieces(), told.loose()), ([["a", "b", "c", "d"]], []))


class Comparing(unittest.TestCase):
    def test_alike(self):
        for keys in itertools.permutations(MARKS):
            other = Survey(filled(MARKS, keys), filled(READINGS, (5, 1, 2)))
            self.assertTrue(Survey(MARKS, READINGS) == other)
            self.assertFalse(Survey(MARKS, READINGS) != other)

    def test_others(self):
        told = Survey(MARKS, READINGS)
        for other in (Survey(MARKS, {}), Survey({**MARKS, "b": (0, 0)}, READINGS), Survey({**MARKS, "e": None}, READINGS),
                      Survey(MARKS, {**READINGS, 1: ("b", "a", 3, 4, 1)})):
            self.assertFalse(told == other)
            self.assertTrue(told != other)

    def test_things_of_another_kind(self):
        for other in (None, 3, "Survey(4 marks, 3 readings)", MARKS, (MARKS, READINGS), [], 0):
            self.assertFalse(Survey(MARKS, READINGS) == other)
            self.assertTrue(Survey(MARKS, READINGS) != other)
            self.assertFalse(Survey({}, {}) == other)

    def test_len(self):
        self.assertEqual(len(Survey(MARKS, READINGS)), 3)
        self.assertEqual(len(Survey(MARKS, {})), 0)

    def test_repr(self):
        self.assertEqual(repr(Survey(MARKS, READINGS)), "Survey(4 marks, 3 readings)")
        self.assertEqual(repr(Survey({"a": None}, {})), "Survey(1 marks, 0 readings)")
        self.assertEqual(repr(Survey({}, {})), "Survey(0 marks, 0 readings)")


class Hanging(unittest.TestCase):
    def test_pieces(self):
        marks = {name: None for name in "fedcba"}
        readings = {1: ("f", "b", 0, 0, 1), 2: ("e", "b", 0, 0, 1), 3: ("d", "a", 0, 0, 1)}
        self.assertEqual(Survey(marks, readings).pieces(), [["a", "d"], ["b", "e", "f"], ["c"]])

    def test_without_readings(self):
        told = Survey(MARKS, {})
        self.assertEqual(told.pieces(), [["a"], ["b"], ["c"], ["d"]])
        self.assertEqual(told.loose(), ["b", "c"])
        self.assertEqual([told.hangs(name) for name in "abcd"], [True, False, False, True])

    def test_without_a_fixed_mark(self):
        told = Survey({"c": None, "a": None, "b": None}, {4: ("c", "a", 1, 1, 1)})
        self.assertEqual(told.pieces(), [["a", "c"], ["b"]])
        self.assertEqual(told.loose(), ["a", "b", "c"])
        self.assertFalse(any(told.hangs(name) for name in "abc"))

    def test_loose_rises_across_pieces(self):
        marks = {"a": None, "b": None, "c": None, "d": None, "e": (0, 0)}
        told = Survey(marks, {1: ("d", "a", 0, 0, 1), 2: ("c", "b", 0, 0, 1)})
        self.assertEqual(told.loose(), ["a", "b", "c", "d"])

    def test_each_reading_leads_either_way(self):
        marks = {"a": (0, 0), "b": None, "c": None}
        for first in (("a", "b"), ("b", "a")):
            for second in (("b", "c"), ("c", "b")):
                told = Survey(marks, {1: (*first, 0, 0, 1), 2: (*second, 0, 0, 1)})
                self.assertEqual((told.pieces(), told.loose()), ([["a", "b", "c"]], []))
                self.assertIs(told.hangs("c"), True)

    def test_no_mark(self):
        told = Survey(MARKS, READINGS)
        for name in ("x", "", "A"):
            refuse(self, NoMark, {"name": name}, told.hangs, name)
        refuse(self, NoMark, {"name": "a"}, Survey({}, {}).hangs, "a")

    def test_against_a_plain_closure(self):
        chance = random.Random(6)
        for turn in range(60):
            names = list("abcdefgh")[:chance.randint(1, 8)]
            marks = {name: (0, 0) if chance.random() < 0.2 else None for name in names}
            ties = [chance.sample(names, 2) for tie in range(chance.randint(0, 6))] if len(names) > 1 else []
            told = Survey(marks, {at + 1: (*tie, 0, 0, 1) for at, tie in enumerate(ties)})
            together = {name: {name} for name in names}
            for again in names:
                for one, other in ties:
                    both = together[one] | together[other]
                    for name in both:
                        together[name] = both
            self.assertEqual(told.pieces(), sorted({tuple(sorted(one)): sorted(one) for one in together.values()}.values()))
            hanging = [name for name in names if any(marks[near] for near in together[name])]
            self.assertEqual(told.loose(), [name for name in names if name not in hanging])
            self.assertEqual([name for name in names if told.hangs(name)], hanging)


if __name__ == "__main__":
    unittest.main()
