import itertools
import random
import unittest
from fractions import Fraction

from gromatic.adjust import adjusted, balanced, cost, pull, rests
from gromatic.errors import NoReading
from gromatic.survey import MOST, Survey
from helpers import as_ratio, filled, fraction, refuse, spot

NOUGHT = (0, 1)
MARKS = {"a": (0, 0), "b": None, "c": None, "d": (10, 0), "e": None, "f": None, "g": None}
READINGS = {
    1: ("a", "b", 3, 1, 1), 2: ("b", "c", 3, 0, 2), 3: ("d", "c", -3, 2, 3), 4: ("b", "a", -4, 0, 1),
    5: ("a", "b", 3, 0, 5), 6: ("e", "f", 1, 1, 1), 7: ("f", "e", 2, 2, 9), 9: ("a", "d", 9, 1, 4),
}
TOLD = Survey(MARKS, READINGS)


def random_survey(chance, most_marks=7, most_readings=12):
    names = list("abcdefghij")[:chance.randint(1, most_marks)]
    marks = {name: (chance.randint(-9, 9), chance.randint(-9, 9)) if chance.random() < 0.35 else None
             for name in names}
    readings = {}
    for number in chance.sample(range(1, 40), chance.randint(0, most_readings) if len(names) > 1 else 0):
        readings[number] = (*chance.sample(names, 2), chance.randint(-20, 20), chance.randint(-20, 20),
                            chance.randint(1, 9))
    return Survey(marks, readings)


def plain_cost(survey, placing):
    total = Fraction(0)
    for one, other, across, up, weight in survey.readings().values():
        if one in placing and other in placing:
            x = fraction(placing[other][0]) - fraction(placing[one][0]) - across
            y = fraction(placing[other][1]) - fraction(placing[one][1]) - up
            total += weight * (x * x + y * y)
    return total


def moved(placing, name, x, y):
    told = dict(placing)
    told[name] = (as_ratio(fraction(told[name][0]) + x), as_ratio(fraction(told[name][1]) + y))
    return told


def free_and_hanging(survey):
    return [name for name, at in survey.marks().items() if at is None and survey.hangs(name)]


class Adjusted(unittest.TestCase):
    def test_one_reading(self):
        told = adjusted(Survey({"a": (1, -2), "b": None}, {1: ("a", "b", 3, 4, 2)}))
        self.assertEqual(told, {"a": spot(1, -2), "b": spot(4, 2)})
        told = adjusted(Survey({"a": (1, -2), "b": None}, {1: ("b", "a", 3, 4, 2)}))
        self.assertEqual(told, {"a": spot(1, -2), "b": spot(-2, -6)})

    def test_the_mean_by_weights(self):
        marks = {"a": (0, 0), "b": None}
        told = adjusted(Survey(marks, {1: ("a", "b", 3, 0, 1), 2: ("b", "a", -4, -1, 2), 3: ("a", "b", 6, 1, 4)}))
        self.assertEqual(told["b"], spot(Fraction(3 + 8 + 24, 7), Fraction(6, 7)))

    def test_a_chain_between_two_fixed_marks(self):
        marks = {"a": (0, 0), "b": None, "c": None, "d": (10, 3)}
        readings = {1: ("a", "b", 3, 0, 1), 2: ("b", "c", 3, 0, 1), 3: ("c", "d", 3, 0, 1)}
        self.assertEqual(adjusted(Survey(marks, readings)),
                         {"a": spot(0, 0), "b": spot(Fraction(10, 3), 1), "c": spot(Fraction(20, 3), 2), "d": spot(10, 3)})

    def test_a_ring_without_closing(self):
        marks = {"a": (0, 0), "b": None, "c": None}
        readings = {1: ("a", "b", 1, 0, 1), 2: ("b", "c", 1, 0, 1), 3: ("c", "a", 1, 0, 1)}
        self.assertEqual(adjusted(Survey(marks, readings)),
                         {"a": spot(0, 0), "b": spot(0, 0), "c": spot(0, 0)})

    def test_loose_marks_are_left_out(self):
        self.assertEqual(sorted(adjusted(TOLD)), ["a", "b", "c", "d"])
        self.assertEqual(adjusted(Survey({"a": None, "b": None}, {1: ("a", "b", 1, 1, 1)})), {})
        self.assertEqual(adjusted(Survey({}, {})), {})

    def test_fixed_marks_stay_whatever_is_read_between_them(self):
        told = adjusted(Survey({"a": (-MOST, MOST), "b": (MOST, 0)}, {1: ("a", "b", 5, 5, 9)}))
        self.assertEqual(told, {"a": spot(-MOST, MOST), "b": spot(MOST, 0)})

    def test_several_pieces(self):
        marks = {"a": (0, 0), "b": None, "c": (5, 5), "d": None, "e": None}
        told = adjusted(Survey(marks, {1: ("a", "b", 1, 2, 1), 2: ("d", "c", 1, 2, 1)}))
        self.assertEqual(told, {"a": spot(0, 0), "b": spot(1, 2), "c": spot(5, 5), "d": spot(4, 3)})

    def test_whatever_the_order_of_the_dicts(self):
        chance = random.Random(7)
        for turn in range(10):
            marks = filled(MARKS, chance.sample(list(MARKS), len(MARKS)))
            readings = filled(READINGS, chance.sample(list(READINGS), len(READINGS)))
            self.assertEqual(adjusted(Survey(marks, readings)), adjusted(TOLD))

    def test_balanced_and_cheaper_than_others(self):
        chance = random.Random(8)
        for turn in range(80):
            survey = random_survey(chance)
            told = adjusted(survey)
            self.assertTrue(balanced(survey, told))
            least = plain_cost(survey, told)
            for name in free_and_hanging(survey):
                for x, y in ((1, 0), (-1, 0), (0, Fraction(1, 1000)), (0, Fraction(-1, 1000))):
                    other = moved(told, name, x, y)
                    self.assertLess(least, plain_cost(survey, other))
                    self.assertEqual(fraction(cost(survey, other)), plain_cost(survey, other))
                    self.assertFalse(balanced(survey, other))

    def test_a_hundred_marks(self):
        names = ["".join(letters) for letters in itertools.product("abcdefghij", repeat=2)]
        chance = random.Random(9)
        marks = {name: None for name in names}
        marks[names[0]] = (-7, 7)
        marks[names[50]] = (70, 9)
        ties = [(names[at], names[at + 1]) for at in range(99)] + [(names[3], names[90])]
        readings = {at + 1: (*tie, chance.randint(-MOST, MOST), chance.randint(-MOST, MOST), chance.randint(1, 9))
                    for at, tie in enumerate(ties)}
        survey = Survey(marks, readings)
        self.assertTrue(balanced(survey, adjusted(survey)))

    def test_a_close_mesh(self):
        names = list("abcdefghijklmno")
        chance = random.Random(10)
        marks = {name: None for name in names}
        marks["h"] = (3, 3)
        ties = chance.sample(list(itertools.permutations(names, 2)), 100)
        survey = Survey(marks, {at + 1: (*tie, chance.randint(-9, 9), chance.randint(-9, 9), chance.randint(1, 9))
                                for at, tie in enumerate(ties)})
        self.assertTrue(balanced(survey, adjusted(survey)))

    def test_the_dict_is_the_askers(self):
        adjusted(TOLD).clear()
        self.assertEqual(len(adjusted(TOLD)), 4)


class Balanced(unittest.TestCase):
    def test_the_adjusted_one_alone(self):
        self.assertIs(balanced(TOLD, adjusted(TOLD)), True)

    def test_a_mark_too_few(self):
        for name in ("a", "b", "c", "d"):
            placing = adjusted(TOLD)
            del placing[name]
            self.assertIs(balanced(TOLD, placing), False)

    def test_a_mark_too_many(self):
        for name in ("e", "g", "strang", "Strange"):
            self.assertIs(balanced(TOLD, {**adjusted(TOLD), name: spot(0, 0)}), False)

    def test_a_mark_in_the_place_of_another(self):
        placing = adjusted(TOLD)
        placing["x"] = placing.pop("b")
        self.assertIs(balanced(TOLD, placing), False)

    def test_a_mark_moved(self):
        for name in ("a", "b", "c", "d"):
            for x, y in ((1, 0), (0, 1), (Fraction(1, 10 ** 20), 0), (0, Fraction(-1, 10 ** 20))):
                self.assertIs(balanced(TOLD, moved(adjusted(TOLD), name, x, y)), False)

    def test_all_moved_alike(self):
        placing = adjusted(TOLD)
        for name in list(placing):
            placing = moved(placing, name, 1, 1)
        self.assertIs(balanced(TOLD, placing), False)

    def test_a_fixed_mark_moved_that_no_reading_touches(self):
        survey = Survey({"a": (1, 1), "b": (2, 2)}, {})
        self.assertIs(balanced(survey, {"a": spot(1, 1), "b": spot(2, 2)}), True)
        self.assertIs(balanced(survey, {"a": spot(1, 1), "b": spot(2, 1)}), False)

    def test_x_and_y_each_count(self):
        survey = Survey({"a": (0, 0), "b": None}, {1: ("a", "b", 1, 1, 1)})
        self.assertIs(balanced(survey, {"a": spot(0, 0), "b": spot(1, 1)}), True)
        self.assertIs(balanced(survey, {"a": spot(0, 0), "b": spot(1, 2)}), False)
        self.assertIs(balanced(survey, {"a": spot(0, 0), "b": spot(2, 1)}), False)

    def test_the_empty_placing(self):
        self.assertIs(balanced(Survey({}, {}), {}), True)
        self.assertIs(balanced(Survey({"a": None}, {}), {}), True)
        self.assertIs(balanced(Survey({"a": None}, {}), {"a": spot(0, 0)}), False)
        self.assertIs(balanced(TOLD, {}), False)

    def test_what_is_handed_in_stays(self):
        placing = adjusted(TOLD)
        balanced(TOLD, placing)
        rests(TOLD, placing)
        cost(TOLD, placing)
        self.assertEqual(placing, adjusted(TOLD))


class RestsAndCost(unittest.TestCase):
    def test_rests(self):
        placing = {"a": spot(0, 0), "b": spot(Fraction(7, 2), 1), "x": spot(1, 1), "d": spot(1, 0)}
        self.assertEqual(rests(TOLD, placing), {
            1: spot(Fraction(1, 2), 0), 4: spot(Fraction(1, 2), -1), 5: spot(Fraction(1, 2), 1), 9: spot(-8, -1)})

    def test_loose_marks_may_be_placed(self):
        placing = {"e": spot(0, 0), "f": spot(2, 1), "strang": spot(5, 5)}
        self.assertEqual(rests(TOLD, placing), {6: spot(1, 0), 7: spot(-4, -3)})
        self.assertEqual(cost(TOLD, placing), (1 + 9 * 25, 1))

    def test_marks_left_out(self):
        self.assertEqual(rests(TOLD, {"b": spot(0, 0)}), {})
        self.assertEqual(cost(TOLD, {"b": spot(0, 0)}), NOUGHT)
        self.assertEqual(rests(TOLD, {}), {})
        self.assertEqual(cost(TOLD, {}), NOUGHT)

    def test_strange_marks_change_nothing(self):
        placing = adjusted(TOLD)
        strange = {**placing, "x": spot(1, 2), "Odd one": spot(3, 4)}
        self.assertEqual(rests(TOLD, strange), rests(TOLD, placing))
        self.assertEqual(cost(TOLD, strange), cost(TOLD, placing))

    def test_cost(self):
        survey = Survey({"a": (0, 0), "b": None}, {1: ("a", "b", 3, 0, 1), 2: ("b", "a", -4, 0, 2)})
        self.assertEqual(cost(survey, {"a": spot(0, 0), "b": spot(Fraction(7, 2), 1)}), as_ratio(Fraction(15, 4)))
        self.assertEqual(cost(survey, adjusted(survey)), as_ratio(Fraction(2, 3)))

    def test_cost_of_placings_with_fixed_marks_elsewhere(self):
        chance = random.Random(11)
        for turn in range(60):
            survey = random_survey(chance)
            names = [name for name in survey.names() if chance.random() < 0.8]
            placing = {name: spot(Fraction(chance.randint(-50, 50), chance.randint(1, 9)), chance.randint(-9, 9))
                       for name in names}
            self.assertEqual(fraction(cost(survey, placing)), plain_cost(survey, placing))


class Pull(unittest.TestCase):
    def test_a_reading_alone(self):
        survey = Survey({"a": (5, 5), "b": None, "c": None}, {1: ("a", "b", 3, 3, 2), 2: ("c", "b", 0, 0, 1)})
        self.assertEqual(pull(survey, 1), {"a": NOUGHT, "b": (1, 1), "c": (1, 1)})
        self.assertEqual(pull(survey, 2), {"a": NOUGHT, "b": NOUGHT, "c": (-1, 1)})

    def test_against_the_grown_survey(self):
        chance = random.Random(12)
        for turn in range(50):
            survey = random_survey(chance)
            for number in survey.readings():
                self.check_growth(survey, number)

    def check_growth(self, survey, number):
        readings = survey.readings()
        one, other, across, up, weight = readings[number]
        before = adjusted(survey)
        told = pull(survey, number)
        self.assertEqual(sorted(told), sorted(before))
        wide = adjusted(Survey(survey.marks(), {**readings, number: (one, other, across + 1, up, weight)}))
        tall = adjusted(Survey(survey.marks(), {**readings, number: (one, other, across, up + 1, weight)}))
        for name in told:
            growth = fraction(told[name])
            self.assertEqual(wide[name], moved(before, name, growth, 0)[name])
            self.assertEqual(tall[name], moved(before, name, 0, growth)[name])

    def test_loose_marks(self):
        for number in (6, 7):
            self.assertEqual(pull(TOLD, number), {name: NOUGHT for name in "abcd"})

    def test_fixed_marks(self):
        self.assertEqual(pull(TOLD, 9), {name: NOUGHT for name in "abcd"})
        for number in READINGS:
            self.assertEqual((pull(TOLD, number)["a"], pull(TOLD, number)["d"]), (NOUGHT, NOUGHT))

    def test_at_the_bound(self):
        survey = Survey({"a": (MOST, MOST), "b": None}, {1: ("a", "b", MOST, MOST, 9)})
        self.assertEqual(pull(survey, 1), {"a": NOUGHT, "b": (1, 1)})

    def test_no_reading(self):
        for number in (8, 0, -1, 10 ** 29, True, False):
            refuse(self, NoReading, {"number": number}, pull, TOLD, number)
        refuse(self, NoReading, {"number": 1}, pull, Survey({}, {}), 1)

    def test_the_survey_stays(self):
        survey = Survey(MARKS, READINGS)
        pull(survey, 1)
        self.assertEqual(survey, TOLD)


if __name__ == "__main__":
    unittest.main()
