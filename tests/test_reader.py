import copy
import itertools
import random
import unittest

from gromatic.press import Press
from gromatic.reader import Reader
from gromatic.works import Works
from helpers import START, chance_deed, chance_works, try_deeds


def printed_press():
    """A press of five editions; nothing turns in the third one, all goes in the fifth one."""
    works = Works()
    works.run(list(START))
    press = Press(works)
    press.publish()
    works.mend(1, 30, 30, weight=9)
    press.publish()
    press.publish()
    works.run([("unsite", "inn"), ("scale", "near", 5, 0, 1, 16)])
    press.publish()
    works.run([("unscale", "wide"), ("unscale", "near")])
    press.publish()
    return press


class Taking(unittest.TestCase):
    def setUp(self):
        self.press = printed_press()
        self.patches = [self.press.patch(number) for number in range(1, 6)]

    def holds(self, reader, number, lacks=()):
        self.assertEqual((reader.held(), reader.lacks()), (number, list(lacks)))
        tiles = self.press.tiles_of(number)
        self.assertEqual(reader.tiles(), tiles)
        for edition in range(6):
            for key in self.press.tiles_of(edition):
                self.assertEqual(reader.text_at(*key), tiles.get(key, ""))

    def test_at_first(self):
        reader = Reader()
        self.holds(reader, 0)
        self.assertEqual((reader.tiles(), reader.text_at("wide", 0, 0)), ({}, ""))

    def test_in_order(self):
        reader = Reader()
        for number in range(1, 6):
            self.assertEqual(reader.take(self.patches[number - 1]), 1)
            self.holds(reader, number)
        self.assertEqual(reader.tiles(), {})

    def test_by_names(self):
        reader = Reader()
        self.assertEqual(reader.take(patch=self.patches[0]), 1)
        self.assertEqual(reader.text_at(b=0, a=0, scale="wide"), self.press.tiles_of(1)[("wide", 0, 0)])
        self.assertEqual(reader.text_at("nosuch", 0, 0), "")
        self.assertEqual(reader.text_at("wide", 10 ** 9, -5), "")

    def test_late(self):
        reader = Reader()
        self.assertEqual(reader.take(self.patches[4]), 0)
        self.holds(reader, 0, [1, 2, 3, 4])
        self.assertEqual(reader.take(self.patches[1]), 0)
        self.holds(reader, 0, [1, 3, 4])
        self.assertEqual(reader.take(self.patches[0]), 2)
        self.holds(reader, 2, [3, 4])
        self.assertEqual(reader.take(self.patches[3]), 0)
        self.holds(reader, 2, [3])
        self.assertEqual(reader.take(self.patches[2]), 3)
        self.holds(reader, 5)

    def test_twice(self):
        reader = Reader()
        reader.take(self.patches[2])
        self.assertEqual(reader.take(self.patches[2]), 0)
        self.holds(reader, 0, [1, 2])
        reader.take(self.patches[0])
        self.assertEqual(reader.take(self.patches[0]), 0)
        self.holds(reader, 1, [2])
        self.assertEqual(reader.take(self.patches[2]), 0)
        self.assertEqual(reader.take(self.patches[1]), 2)
        for number in range(3):
            self.assertEqual(reader.take(self.patches[number]), 0)
            self.holds(reader, 3)

    def test_in_all_orders(self):
        for order in itertools.permutations(range(1, 6)):
            reader = Reader()
            taken = set()
            came = 0
            for number in order:
                before = reader.held()
                told = reader.take(self.patches[number - 1])
                taken.add(number)
                held = max(edition for edition in range(6) if set(range(1, edition + 1)) <= taken)
                lacks = [edition for edition in range(held + 1, max(taken)) if edition not in taken]
                self.assertEqual(told, held - before)
                self.assertEqual((reader.held(), reader.lacks()), (held, lacks))
                self.assertEqual(reader.tiles(), self.press.tiles_of(held))
                came += told
            self.assertEqual(came, 5)

    def test_chance(self):
        chance = random.Random(44)
        for turn in range(8):
            works = chance_works(chance, 15)
            press = Press(works)
            reader = Reader()
            for step in range(60):
                if press.printed() == 0 or chance.randrange(5) == 0:
                    try_deeds(works, [chance_deed(chance, works)], as_run=False)
                    press.publish()
                reader.take(press.patch(chance.randint(1, press.printed())))
                self.assertEqual(reader.tiles(), press.tiles_of(reader.held()))
            for number in range(1, press.printed() + 1):
                reader.take(press.patch(number))
            self.assertEqual((reader.held(), reader.lacks()), (press.printed(), []))
            self.assertEqual(reader.tiles(), press.tiles_of(press.printed()))


class Copies(unittest.TestCase):
    def setUp(self):
        self.press = printed_press()

    def test_handed_rows_may_be_changed(self):
        reader = Reader()
        first, second, third = [self.press.patch(number) for number in (1, 2, 3)]
        before = copy.deepcopy((first, second, third))
        for patch in (third, first):
            reader.take(patch)
        self.assertEqual((first, second, third), before)
        for patch in (third, first):
            patch[1].clear()
            patch[1].append(("wide", 0, 0, "what"))
        reader.take(second)
        second[1].clear()
        self.assertEqual((reader.held(), reader.tiles()), (3, self.press.tiles_of(3)))

    def test_kept_rows_may_be_changed(self):
        reader = Reader()
        second = self.press.patch(2)
        reader.take(second)
        second[1].clear()
        reader.take(self.press.patch(1))
        self.assertEqual((reader.held(), reader.tiles()), (2, self.press.tiles_of(2)))

    def test_told_things_may_be_changed(self):
        reader = Reader()
        reader.take(self.press.patch(1))
        reader.take(self.press.patch(4))
        reader.tiles().clear()
        reader.lacks().clear()
        self.assertEqual((reader.tiles(), reader.lacks()), (self.press.tiles_of(1), [2, 3]))

    def test_later_editions_do_not_reach_a_reader_by_themselves(self):
        works = Works()
        works.run(list(START))
        press = Press(works)
        press.publish()
        reader = Reader()
        reader.take(press.patch(1))
        works.unscale("wide")
        press.publish()
        self.assertEqual((reader.held(), reader.tiles()), (1, press.tiles_of(1)))

    def test_two_readers_have_nothing_to_do_with_one_another(self):
        one, other = Reader(), Reader()
        patch = self.press.patch(1)
        one.take(patch)
        self.assertEqual((other.held(), other.tiles(), other.lacks()), (0, {}, []))
        other.take(self.press.patch(3))
        self.assertEqual((one.held(), one.lacks()), (1, []))


class Twins(unittest.TestCase):
    def test_goes_its_own_way(self):
        press = printed_press()
        reader = Reader()
        reader.take(press.patch(1))
        reader.take(press.patch(3))
        twin = reader.twin()
        self.assertEqual((twin.held(), twin.lacks(), twin.tiles()), (1, [2], press.tiles_of(1)))
        self.assertEqual(twin.take(press.patch(2)), 2)
        self.assertEqual(twin.take(press.patch(5)), 0)
        self.assertEqual((reader.held(), reader.lacks(), reader.tiles()), (1, [2], press.tiles_of(1)))
        self.assertEqual(reader.take(press.patch(4)), 0)
        self.assertEqual((twin.held(), twin.lacks(), twin.tiles()), (3, [4], press.tiles_of(3)))
        self.assertEqual(reader.take(press.patch(2)), 3)
        self.assertEqual((reader.held(), reader.lacks()), (4, []))
        self.assertEqual((twin.held(), twin.lacks()), (3, [4]))

    def test_of_a_new_reader(self):
        reader = Reader()
        twin = reader.twin()
        twin.take(printed_press().patch(1))
        self.assertEqual((reader.held(), reader.tiles(), twin.held()), (0, {}, 1))


if __name__ == "__main__":
    unittest.main()
