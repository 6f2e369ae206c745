import random
import unittest

from gromatic.errors import BadText, NothingLeft
from gromatic.pages import page, read_page
from gromatic.works import Works
from helpers import START, chance_works, refuse

PAGE = """mark a 0,0
mark b -
run 3
read a b -3 40 2
scale wide 10 0 1 16
line lane road a,b
mend 1 -3 39 -
run 1
site inn b 5
note wide inn 0 4 1
"""


def works_of(*entries):
    works = Works()
    for entry in entries:
        works.run(entry) if isinstance(entry, list) else works.do(entry)
    return works


def page_works():
    """The works that PAGE tells of."""
    return works_of(("mark", "a", (0, 0)), ("mark", "b", None),
                    [("read", "a", "b", -3, 40, 2), ("scale", "wide", 10, 0, 1, 16), ("line", "lane", "road", ["a", "b"])],
                    ("mend", 1, -3, 39, None), [("site", "inn", "b", 5)], ("note", "wide", "inn", 0, 4, 1))


class Writing(unittest.TestCase):
    def test_of_nothing(self):
        self.assertEqual(page(Works()), "")
        works = works_of(("mark", "a", None))
        works.run([])
        works.undo()
        self.assertEqual(page(works), "")

    def test_deeds_and_runs(self):
        self.assertEqual(page(page_works()), PAGE)
        self.assertEqual(page(works=works_of([("mark", "a", None)])), "run 1\nmark a -\n")

    def test_behind_undo_and_redo(self):
        works = page_works()
        lines = PAGE.splitlines(keepends=True)
        for many in (9, 7, 6, 2, 1, 0):
            works.undo()
            self.assertEqual(page(works), "".join(lines[:many]))
        for many in (1, 2, 6):
            works.redo()
            self.assertEqual(page(works), "".join(lines[:many]))

    def test_asking_changes_nothing(self):
        works = page_works()
        page(works)
        self.assertEqual((works, works.edition, works.calls), (page_works(), 6, 6))


class Reading(unittest.TestCase):
    def same(self, works):
        """A page of the works makes just that works, fresh."""
        told = read_page(page(works))
        many = len(works.done())
        self.assertEqual(told, works)
        self.assertEqual(told.done(), works.done())
        self.assertEqual((told.edition, told.calls), (many, many))
        refuse(self, NothingLeft, {}, told.redo)
        for turn in range(many):
            told.undo()
        refuse(self, NothingLeft, {}, told.undo)
        self.assertEqual(told, Works())

    def test_there_and_back(self):
        self.same(page_works())
        self.same(works_of(*START))
        self.same(works_of(list(START)))
        self.assertEqual(page(read_page(PAGE)), PAGE)
        self.assertEqual(read_page(text=PAGE), page_works())

    def test_the_empty_text(self):
        works = read_page("")
        self.assertEqual((works, works.edition, works.calls, works.done()), (Works(), 0, 0, []))
        self.same(Works())

    def test_refused_calls_and_what_was_undone_are_gone(self):
        works = page_works()
        with self.assertRaises(ValueError):
            works.mark("")
        works.undo()
        self.same(works)

    def test_numbers_of_readings_go_on(self):
        works = works_of(("mark", "a", None), ("mark", "b", None), ("read", "a", "b", 1, 1, 1), ("strike", 1))
        self.assertEqual(read_page(page(works)).read("a", "b", 1, 1), 2)

    def test_report_is_of_the_last_one(self):
        self.assertEqual(read_page(PAGE).report(), page_works().report())

    def test_of_works_of_chance(self):
        chance = random.Random(48)
        for turn in range(10):
            self.same(chance_works(chance, 40))

    def test_too_far_in_the_middle_of_a_run(self):
        works = works_of(("mark", "a", (0, 0)), ("scale", "s", 1, 0, 1, 16), [("fix", "a", (500, 0)), ("fix", "a", None)])
        self.same(works)

    def test_a_run_of_many_deeds(self):
        deeds = [("mark", "a", None)] + [("fix", "a", (at, 0)) for at in range(150)]
        self.same(works_of(deeds))


class Refusing(unittest.TestCase):
    def refused(self, at, *lines, end="\n"):
        refuse(self, BadText, {"at": at}, read_page, "\n".join(lines) + end)

    def test_lines_of_no_form(self):
        for line in ("", " ", "dig", "mark a", "mark a - ", " mark a -", "mark  a -", "mark a 01,0", "undo", "redo", "Run 1",
                     "runs 1", "last", "mark a -\r", "strike 1234567890", "spot a"):
            self.refused(0, line)
            self.refused(1, "mark a -", line)
            self.refused(1, "mark a -", line, "dig")
            self.refused(2, "run 1", "mark a -", line)

    def test_lines_of_no_form_in_a_run(self):
        for line in ("", "dig", "mark b", "run 1", "run 0", "undo"):
            self.refused(1, "run 1", line)
            self.refused(1, "run 2", line, "mark b -")
            self.refused(2, "run 2", "mark a -", line)
            self.refused(2, "run 5", "mark a -", line)
            # The run is refused, too, but only when all of its lines were read.
            self.refused(3, "run 3", "strike 9", "strike 9", line)

    def test_refused_deeds(self):
        for line in ("mark abcdefg -", "mark a 1000,0", "fix z -", "read a z 0 0 1", "strike 1", "mend 1 0 0 -",
                     "line l river a,b", "line l road -", "line l road a,z", "unline l", "site s z 1", "unsite s",
                     "scale s 0 0 1 16", "unscale s", "route r a z", "unroute r", "note s s 0 0 1", "mark m 0,0"):
            self.refused(1, "mark m -", line)
            self.refused(1, "mark m -", line, "dig")
            self.refused(3, "run 2", "mark m -", "mark n -", line)

    def test_too_far(self):
        self.refused(1, "scale s 1 0 1 16", "mark a 500,0")
        self.refused(1, "scale s 1 0 1 16", "run 2", "mark a 500,0", "mark b -")

    def test_refused_runs(self):
        self.refused(0, "run 1", "strike 1")
        self.refused(1, "mark m -", "run 3", "mark a -", "strike 1", "mark b -")
        self.refused(1, "mark m -", "run 2", "mark a -", "mark m -")
        self.refused(1, "mark m -", "run 2", "mark a -", "mark m -", "dig")
        self.refused(2, "run 1", "mark m -", "run 1", "mark m -")

    def test_too_few_lines(self):
        self.refused(1, "run 1")
        self.refused(2, "run 2", "mark a -")
        self.refused(3, "mark a -", "run 2", "mark b -")
        self.refused(2, "run 2", "strike 9")
        self.refused(3, "run 999999999", "mark a -", "mark a -")
        # What comes ahead of a run is told first.
        self.refused(0, "strike 1", "run 2", "mark b -")

    def test_numbers_of_runs(self):
        for word in ("0", "-1", "-0", "01", "+1", "1.0", "a", "", "1234567890", "1 ", " 1", "1 1", "-", "\u0661"):
            self.refused(0, f"run {word}", "mark a -")
            self.refused(1, "mark b -", f"run {word}", "mark a -")
        self.refused(0, "run", "mark a -")

    def test_no_line_end_behind_the_last_line(self):
        self.refused(0, "mark a -", end="")
        self.refused(0, "dig", end="")
        self.refused(0, " ", end="")
        self.refused(1, "mark a -", "mark b -", end="")
        self.refused(1, "mark a -", "strike 7", end="")
        self.refused(0, "run 1", end="")
        self.refused(0, "run 0", end="")
        self.refused(len(PAGE.splitlines()) - 1, PAGE[:-1], end="")

    def test_no_line_end_behind_a_run(self):
        self.refused(1, "run 1", "mark a -", end="")
        self.refused(2, "run 2", "mark a -", "mark b -", end="")
        # The run would be refused, but for want of the line end it does not end.
        self.refused(2, "run 2", "strike 7", "strike 7", end="")
        self.refused(1, "run 1", "dig", end="")
        # This one has all of its lines, and is refused ahead of the piece behind it.
        self.refused(0, "run 1", "strike 7", "mark a -", end="")
        self.refused(2, "run 1", "mark a -", "mark b -", end="")

    def test_lines_of_no_form_ahead_of_a_missing_line_end(self):
        self.refused(0, "dig", "mark a -", end="")
        self.refused(1, "run 3", "dig", "mark a -", end="")

    def test_line_ends_alone(self):
        refuse(self, BadText, {"at": 0}, read_page, "\n")
        refuse(self, BadText, {"at": 1}, read_page, "mark a -\n\n")
        refuse(self, BadText, {"at": 0}, read_page, "\nmark a -\n")


if __name__ == "__main__":
    unittest.main()
