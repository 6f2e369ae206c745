"""Runs, undo and redo, and what a works tells."""

import copy
import random
import unittest

from gromatic.errors import (AbsentError, BadDeed, BadName, BadNumber, BadReading, Full, GroundError, NoLine, NoMark,
                             NoReading, NothingFixed, NothingLeft, TooFar)
from gromatic.report import Report
from gromatic.scales import Scale
from gromatic.stand import Stand
from gromatic.survey import Survey
from gromatic.works import Works
from helpers import START, chance_deed, chance_works, refuse, try_deeds

MADE = (("mark", "a", (0, 0)), ("mark", "b", None), ("read", "a", "b", 30, 10, 2), ("scale", "wide", 10, 0, 1, 16))


def works_of(*entries):
    """A works in which tuples were done as deeds, lists as runs."""
    works = Works()
    for entry in entries:
        if isinstance(entry, list):
            works.run(entry)
        else:
            works.do(entry)
    return works


def ground_of(works):
    """What a works has now."""
    return copy.deepcopy((works.survey().marks(), works.survey().readings(), works.lines(), works.sites(),
                          {name: str(scale) for name, scale in works.scales().items()}, works.routes()))


def stand_anew(works):
    return Stand(works.survey(), works.lines(), works.sites(), works.scales(), works.routes())


def told_by(report):
    """All that a report tells that has no name, as a text, and the marks."""
    return (str(report), report.marks(), report.routes(), len(report))


def all_of(works):
    """All that a works tells but its calls."""
    return (ground_of(works), works.edition, copy.deepcopy(works.done()), told_by(works.report()), repr(works))


def left(call):
    """How often a works can undo, or redo."""
    many = 0
    while True:
        try:
            call()
        except NothingLeft:
            return many
        many += 1


class First(unittest.TestCase):
    def test_of_nothing(self):
        works = Works()
        self.assertEqual(works.survey(), Survey({}, {}))
        self.assertEqual((works.lines(), works.sites(), works.scales(), works.routes()), ({}, {}, {}, {}))
        self.assertEqual((works.edition, works.calls, works.done()), (0, 0, []))
        self.assertEqual(repr(works), "Works(0 marks, 0 lines, 0 scales)")
        self.assertEqual((works.stand().scales(), works.stand().routes()), ([], []))
        report = works.report()
        self.assertEqual((report.marks(), report.routes(), str(report)), ([], [], "marks 0, tiles 0"))
        self.assertEqual(report, Report(Works().stand(), Works().stand()))

    def test_repr(self):
        works = works_of(*START)
        self.assertEqual(repr(works), "Works(5 marks, 1 lines, 1 scales)")

    def test_deed_by_name(self):
        works = Works()
        self.assertIsNone(works.do(deed=("mark", "a", None)))
        self.assertEqual(works.run(deeds=[("mark", "b", None)]), [None])


class Runs(unittest.TestCase):
    def test_of_no_deed(self):
        works = works_of(*MADE)
        works.undo()
        before = all_of(works)
        self.assertEqual(works.run([]), [])
        self.assertEqual(all_of(works), before)
        self.assertEqual((works.edition, works.calls), (5, 6))
        # It is no deed: what was taken back can still be done again.
        works.redo()
        self.assertEqual(works, works_of(*MADE))

    def test_of_one(self):
        works = Works()
        self.assertEqual(works.run([("mark", "a", None)]), [None])
        self.assertEqual(works.done(), [[("mark", "a", None)]])
        self.assertEqual((works.edition, works.calls), (1, 1))

    def test_of_several(self):
        works = Works()
        told = works.run([*MADE, ("site", "inn", "b", 5), ("note", "wide", "inn", 3, 1, 1), ("strike", 1),
                          ("read", "b", "a", 0, 0, 1)])
        self.assertEqual(told, [None, None, 1, None, None, 2, None, 3])
        self.assertEqual((works.edition, works.calls, len(works.done())), (1, 1, 1))
        self.assertEqual(works.survey().readings(), {2: ("a", "b", 30, 10, 1), 3: ("b", "a", 0, 0, 1)})
        self.assertEqual(works.done(), [[*MADE, ("site", "inn", "b", 5), ("note", "wide", "inn", 3, 1, 1), ("strike", 1),
                                         ("read", "b", "a", 0, 0, 1)]])

    def test_as_deeds_one_by_one(self):
        self.assertEqual(works_of(*START), works_of(list(START)))

    def test_refused_at_each_place(self):
        good = [("mark", "c", None), ("read", "b", "c", 1, 1, 1), ("line", "l", "road", ["b", "c"]), ("fix", "c", (9, 9))]
        works = works_of(*MADE)
        for at in range(len(good) + 1):
            for bad, error, fields in ((("mark", "", None), BadName, {"name": ""}),
                                       (("strike", 7), NoReading, {"number": 7}),
                                       (("unline", "m"), NoLine, {"name": "m"}),
                                       (("read", "b", "b", 1, 1, 1), BadReading, {"number": 3 if at > 1 else 2})):
                before, calls = all_of(works), works.calls
                refuse(self, error, fields, works.run, good[:at] + [bad] + good[at:])
                self.assertEqual(all_of(works), before)
                self.assertEqual(works.calls, calls + 1)
        self.assertEqual(works.run(good), [None, 2, None, None])

    def test_the_first_refusal_goes_on(self):
        works = works_of(*MADE)
        refuse(self, NoLine, {"name": "m"}, works.run, [("unline", "m"), ("mark", "", None)])
        refuse(self, BadName, {"name": ""}, works.run, [("mark", "", None), ("unline", "m")])

    def test_bad_deeds_ahead_of_any_other_refusal(self):
        works = works_of(*MADE)
        before = all_of(works)
        for bad, word in (((), ""), (("dig",), "dig"), (("mark", "c"), "mark"), (("strike", 1, 1), "strike")):
            refuse(self, BadDeed, {"word": word}, works.run, [("mark", "", None), bad])
            refuse(self, BadDeed, {"word": word}, works.run, [("mark", "c", None), ("unline", "x"), bad, ("dug",)])
            refuse(self, BadDeed, {"word": word}, works.run, [bad, ("mark", "", None)])
        self.assertEqual(all_of(works), before)

    def test_room_in_the_middle(self):
        works = Works()
        works.run([("mark", "a", None), ("mark", "b", None)])
        lines = [("line", name, "road", ("a", "b")) for name in "abcdefg"]
        refuse(self, Full, {"what": "lines"}, works.run, lines + [("unline", "a")])
        works.run(lines[:6] + [("unline", "a"), lines[6]])
        self.assertEqual(sorted(works.lines()), list("bcdefg"))

    def test_a_note_leans_on_deeds_ahead_of_it(self):
        deeds = [("mark", "m", None), ("site", "inn", "m", 5), ("scale", "wide", 4, 0, 1, 16), ("mark", "a", (8, 8)),
                 ("note", "wide", "inn", 5, 1, 1)]
        works = Works()
        self.assertEqual(works.run(deeds)[-1], 1)
        self.assertEqual(works.survey().readings(), {1: ("a", "m", 12, -4, 1)})
        refuse(self, NothingFixed, {}, Works().run, deeds[:3] + deeds[4:])

    def test_too_far_is_looked_for_at_the_end_alone(self):
        works = works_of(*MADE, ("scale", "near", 1, 0, 1, 16))
        works.run([("fix", "b", (500, 0)), ("fix", "b", (120, 0))])
        self.assertEqual(works.survey().marks()["b"], (120, 0))
        works.run([("fix", "b", (500, 0)), ("unscale", "near")])
        self.assertEqual(works.survey().marks()["b"], (500, 0))
        before = all_of(works)
        refuse(self, TooFar, {"name": "b", "grid": "near"}, works.run, [("scale", "near", 1, 0, 1, 16), ("mark", "c", None)])
        refuse(self, TooFar, {"name": "b", "grid": "wide"}, works.run,
               [("fix", "b", (999, 999)), ("unscale", "wide"), ("scale", "wide", 8, 0, 1, 16)])
        self.assertEqual(all_of(works), before)

    def test_own_refusals_of_later_deeds_ahead_of_too_far(self):
        works = works_of(*MADE, ("scale", "near", 1, 0, 1, 16))
        refuse(self, NoMark, {"name": "x"}, works.run, [("fix", "b", (500, 0)), ("fix", "x", None)])
        refuse(self, BadNumber, {"number": 1000}, works.run, [("fix", "b", (500, 0)), ("fix", "b", (1000, 0))])

    def test_a_note_in_a_run_while_a_mark_is_too_far(self):
        works = works_of(*MADE, ("site", "inn", "b", 5), ("scale", "near", 1, 0, 1, 16))
        told = works.run([("fix", "b", (500, 0)), ("note", "near", "inn", 7, 7, 1), ("fix", "b", None)])
        self.assertEqual(told, [None, 2, None])


class Undo(unittest.TestCase):
    def test_to_both_ends(self):
        entries = [*START[:6], list(START[6:9]), *START[9:]]
        works = Works()
        grounds = [ground_of(works)]
        for entry in entries:
            works.run(entry) if isinstance(entry, list) else works.do(entry)
            grounds.append(ground_of(works))
        many = len(entries)
        for turn in range(2):
            for at in range(many - 1, -1, -1):
                self.assertIsNone(works.undo())
                self.assertEqual(ground_of(works), grounds[at])
                self.assertEqual(works.done(), entries[:at])
            refuse(self, NothingLeft, {}, works.undo)
            self.assertEqual(works, Works())
            for at in range(many):
                self.assertIsNone(works.redo())
                self.assertEqual(ground_of(works), grounds[at + 1])
                self.assertEqual(works.done(), entries[:at + 1])
            refuse(self, NothingLeft, {}, works.redo)
        self.assertEqual((works.edition, works.calls), (5 * many, 5 * many + 4))

    def test_nothing_left(self):
        works = Works()
        for turn in range(2):
            refuse(self, NothingLeft, {}, works.undo)
            refuse(self, NothingLeft, {}, works.redo)
        self.assertEqual((works.edition, works.calls), (0, 4))

    def test_redo_is_gone_behind_another_deed(self):
        for behind in (("mark", "z", None), [("mark", "z", None)]):
            works = works_of(*MADE)
            works.undo()
            works.undo()
            works.run(behind) if isinstance(behind, list) else works.do(behind)
            refuse(self, NothingLeft, {}, works.redo)
            self.assertEqual(works.done(), [*MADE[:2], behind])
            works.undo()
            works.redo()
            self.assertEqual(works.done(), [*MADE[:2], behind])
            self.assertEqual(left(works.undo), 3)

    def test_redo_is_there_behind_what_was_refused(self):
        works = works_of(*MADE)
        works.undo()
        works.undo()
        refuse(self, BadName, {"name": ""}, works.mark, "")
        refuse(self, BadDeed, {"word": ""}, works.do, ())
        refuse(self, NoMark, {"name": "x"}, works.run, [("mark", "z", None), ("fix", "x", None)])
        works.run([])
        self.assertEqual(left(works.redo), 2)
        self.assertEqual(works, works_of(*MADE))

    def test_numbers_of_readings_behind_undo(self):
        works = works_of(*MADE)
        self.assertEqual(works.read("a", "b", 1, 1), 2)
        works.strike(2)
        self.assertEqual(works.read("a", "b", 2, 2), 3)
        works.undo()
        refuse(self, BadReading, {"number": 3}, works.read, "a", "a", 0, 0)
        self.assertEqual(works.read("a", "b", 3, 3), 3)
        works.undo()
        works.undo()
        works.undo()
        self.assertEqual(works.run([("read", "a", "b", 4, 4, 1), ("read", "a", "b", 5, 5, 1)]), [2, 3])
        works.undo()
        works.redo()
        self.assertEqual(works.read("b", "a", 6, 6), 4)
        self.assertEqual(sorted(works.survey().readings()), [1, 2, 3, 4])

    def test_undo_of_each_deed(self):
        works = works_of(*START)
        for deed in (("mark", "z", None), ("fix", "a", None), ("read", "a", "e", 1, 1, 1), ("strike", 2),
                     ("mend", 1, 9, 9, 9), ("line", "m", "shore", ["a", "b"]), ("unline", "lane"), ("site", "m", "a", 1),
                     ("unsite", "inn"), ("scale", "m", 5, 0, 1, 16), ("unscale", "wide"), ("route", "m", "a", "b"),
                     ("unroute", "whole"), ("note", "wide", "inn", 3, 1, 1)):
            before = ground_of(works)
            works.do(deed)
            after = ground_of(works)
            self.assertNotEqual(before, after)
            works.undo()
            self.assertEqual(ground_of(works), before)
            works.redo()
            self.assertEqual(ground_of(works), after)
            works.undo()


class Counts(unittest.TestCase):
    def test_edition_and_calls(self):
        works = Works()

        def counted(edition, calls):
            self.assertEqual((works.edition, works.calls), (edition, calls))

        works.mark("a", at=(0, 0))
        counted(1, 1)
        works.do(("mark", "b", None))
        counted(2, 2)
        refuse(self, BadName, {}, works.mark, "")
        refuse(self, BadDeed, {}, works.do, ("dig",))
        counted(2, 4)
        works.run([("mark", "c", None), ("mark", "d", None), ("read", "a", "c", 1, 1, 1)])
        counted(3, 5)
        refuse(self, NoLine, {}, works.run, [("mark", "e", None), ("unline", "x")])
        refuse(self, BadDeed, {}, works.run, [("mark", "e", None), ()])
        works.run([])
        counted(3, 8)
        works.undo()
        counted(4, 9)
        works.redo()
        counted(5, 10)
        refuse(self, NothingLeft, {}, works.redo)
        counted(5, 11)
        for ask in (works.survey, works.stand, works.lines, works.sites, works.scales, works.routes, works.report,
                    works.done, works.twin, works.__repr__):
            ask()
        counted(5, 11)

    def test_report(self):
        works = Works()

        def reported(before, after):
            self.assertEqual(works.report(), Report(before.stand(), after.stand()))
            self.assertEqual(told_by(works.report()), told_by(Report(before.stand(), after.stand())))

        stages = [Works()]
        for deed in START:
            works.do(deed)
            stages.append(works_of(*START[:len(stages)]))
            reported(*stages[-2:])
        refuse(self, BadName, {}, works.mark, "")
        refuse(self, NoMark, {}, works.run, [("mark", "z", (0, 0)), ("fix", "x", None)])
        refuse(self, NothingLeft, {}, works.redo)
        works.run([])
        reported(*stages[-2:])
        works.undo()
        reported(stages[-1], stages[-2])
        works.undo()
        reported(stages[-2], stages[-3])
        refuse(self, BadDeed, {}, works.do, ())
        works.run([])
        reported(stages[-2], stages[-3])
        works.redo()
        reported(stages[-3], stages[-2])
        works.run([("mend", 1, 40, 0, None), ("unsite", "inn")])
        reported(stages[-2], works)
        self.assertEqual(works.report().marks(), ["b", "c"])
        self.assertEqual(works.report().names("wide"), ["inn"])

    def test_an_earlier_report_stays(self):
        works = works_of(*MADE)
        works.mend(1, 60, 10)
        report = works.report()
        before = told_by(report)
        works.mend(1, 0, 0)
        works.unscale("wide")
        self.assertEqual(told_by(report), before)
        self.assertEqual(report.drawn("wide"), ["b"])


class Telling(unittest.TestCase):
    def test_what_is(self):
        works = works_of(*START)
        self.assertEqual(works.survey(), Survey(
            {"a": (0, 0), "b": None, "c": None, "d": (60, -40), "e": None},
            {1: ("a", "b", 20, 10, 1), 2: ("b", "c", 20, 0, 2), 3: ("c", "d", 19, -50, 1), 4: ("b", "d", 39, -49, 3)}))
        self.assertEqual(works.lines(), {"lane": ("road", ("a", "b", "c", "d"))})
        self.assertEqual(works.sites(), {"inn": ("b", 5), "church": ("c", 1)})
        self.assertEqual(works.scales(), {"wide": Scale(7, tolerance=5, side=8)})
        self.assertEqual(works.routes(), {"whole": ("a", "d")})
        stand, anew = works.stand(), stand_anew(works)
        self.assertEqual(stand.survey(), anew.survey())
        self.assertEqual(stand.land(), anew.land())
        self.assertEqual(stand.sheet("wide"), anew.sheet("wide"))
        self.assertEqual(stand.way("whole"), anew.way("whole"))
        self.assertEqual((stand.scales(), stand.routes()), (["wide"], ["whole"]))

    def test_a_stand_stays(self):
        works = works_of(*START)
        stand, survey = works.stand(), works.survey()
        tiles = stand.sheet("wide").tiles()
        works.unscale("wide")
        works.strike(1)
        self.assertEqual((stand.scales(), stand.sheet("wide").tiles(), len(survey)), (["wide"], tiles, 4))

    def test_done(self):
        works = works_of(("mark", "a", None), [("mark", "b", None)], [("line", "l", "road", ["a", "b"]), ("unline", "l")])
        works.line("m", "shore", ["b", "a"])
        self.assertEqual(works.done(), [("mark", "a", None), [("mark", "b", None)],
                                        [("line", "l", "road", ("a", "b")), ("unline", "l")],
                                        ("line", "m", "shore", ("b", "a"))])
        self.assertEqual([type(entry) for entry in works.done()], [tuple, list, list, tuple])
        refuse(self, BadName, {}, works.mark, "")
        works.undo()
        works.undo()
        self.assertEqual(works.done(), [("mark", "a", None), [("mark", "b", None)]])

    def test_told_things_may_be_changed(self):
        works = works_of(*START, [("mark", "z", (1, 1)), ("unsite", "inn")])
        before = all_of(works)
        for told in (works.lines(), works.sites(), works.scales(), works.routes(), works.done(), works.done()[-1],
                     works.survey().marks(), works.survey().readings(), works.stand().scales(), works.report().marks(),
                     works.stand().way("whole")[1], works.stand().way("whole")[2]):
            self.assertTrue(told)
            told.clear()
        self.assertEqual(all_of(works), before)
        self.assertEqual(works.stand().way("whole"), stand_anew(works).way("whole"))

    def test_what_a_run_tells_may_be_changed(self):
        works = works_of(*MADE)
        told = works.run([("read", "a", "b", 1, 1, 1)])
        told.clear()
        works.run([]).append(1)
        self.assertEqual(works.run([]), [])
        self.assertEqual(works.done()[-1], [("read", "a", "b", 1, 1, 1)])

    def test_handed_lists_may_be_changed(self):
        works = works_of(*MADE)
        marks = ["a", "b"]
        deeds = [("line", "l", "road", marks), ("mark", "z", None)]
        works.run(deeds)
        self.assertEqual(deeds, [("line", "l", "road", ["a", "b"]), ("mark", "z", None)])
        before = all_of(works)
        deeds.clear()
        marks.append("z")
        self.assertEqual(all_of(works), before)
        works.undo()
        works.redo()
        self.assertEqual(works.lines(), {"l": ("road", ("a", "b"))})


class Twins(unittest.TestCase):
    def test_has_all_and_goes_its_own_way(self):
        works = works_of(*START, [("mark", "z", None), ("fix", "z", (1, 1))])
        works.undo()
        works.undo()
        refuse(self, BadName, {}, works.mark, "")
        twin = works.twin()
        self.assertIsNot(twin, works)
        self.assertEqual(twin, works)
        self.assertEqual((all_of(twin), twin.calls), (all_of(works), works.calls))
        self.assertEqual(twin.report(), works.report())
        before, calls = all_of(works), works.calls
        self.assertEqual(left(twin.redo), 2)
        self.assertEqual(left(twin.undo), len(START) + 1)
        twin.mark("q")
        self.assertEqual((all_of(works), works.calls), (before, calls))
        other = works.twin()
        before = all_of(other)
        self.assertEqual(left(works.redo), 2)
        self.assertEqual(works.read("a", "e", 1, 1), 5)
        self.assertEqual(all_of(other), before)
        self.assertEqual(left(other.redo), 2)
        self.assertEqual(other.read("a", "e", 1, 1), 5)
        self.assertEqual(other, works)

    def test_of_a_new_works(self):
        works = Works()
        twin = works.twin()
        twin.mark("a")
        self.assertEqual((works, works.edition, twin.edition), (Works(), 0, 1))


class Alike(unittest.TestCase):
    def is_like(self, told, one, other):
        self.assertIs(one == other, told)
        self.assertIs(other == one, told)
        self.assertIs(one != other, not told)

    def test_whatever_their_editions(self):
        works = works_of(*START)
        self.is_like(True, works, works_of(list(START)))
        works.unsite("inn")
        self.is_like(False, works, works_of(*START))
        works.undo()
        self.is_like(True, works, works_of(*START))
        works.run([("unsite", "inn"), ("site", "inn", "b", 5)])
        self.is_like(True, works, works_of(*START))

    def test_whatever_order_things_came_in(self):
        one = works_of(("mark", "a", None), ("mark", "b", (1, 1)), ("scale", "z", 3, 0, 1, 16), ("scale", "y", 4, 0, 1, 16))
        other = works_of(("scale", "y", 4, 0, 1, 16), ("scale", "z", 3, 0, 1, 16), ("mark", "b", (1, 1)), ("mark", "a", None))
        self.is_like(True, one, other)

    def test_a_note_and_the_reading_that_it_is(self):
        one = works_of(*MADE, ("site", "inn", "b", 5), ("note", "wide", "inn", 3, 2, 4))
        other = works_of(*MADE, ("site", "inn", "b", 5), ("read", "a", "b", 30, 20, 4))
        self.is_like(True, one, other)

    def test_each_thing_counts(self):
        works = works_of(*START)
        for deed in (("mark", "z", None), ("fix", "e", (0, 0)), ("strike", 1), ("mend", 1, 1, 1, None), ("unline", "lane"),
                     ("unsite", "inn"), ("unscale", "wide"), ("unroute", "whole"), ("site", "b", "b", 5)):
            self.is_like(False, works, works_of(*START, deed))
        for at, other in ((9, ("scale", "wide", 7, 4, 1, 8)), (10, ("line", "lane", "shore", ("a", "b", "c", "d"))),
                          (11, ("site", "inn", "b", 4)), (13, ("route", "whole", "d", "a"))):
            self.is_like(False, works, works_of(*START[:at], other, *START[at + 1:]))

    def test_other_numbers_of_readings(self):
        one = works_of(*MADE, ("read", "a", "b", 30, 10, 2), ("strike", 1))
        self.is_like(False, one, works_of(*MADE))
        self.is_like(True, works_of(*MADE, ("read", "a", "b", 0, 0, 1), ("strike", 2)), works_of(*MADE))

    def test_things_of_another_kind(self):
        for works in (Works(), works_of(*START)):
            for other in (None, 0, "", repr(works), {}, [], works.survey(), works.stand(), works.done(), works.report()):
                self.is_like(False, works, other)


class Chance(unittest.TestCase):
    def test_all_or_nothing(self):
        chance = random.Random(39)
        done = refused = 0
        for turn in range(40):
            works = chance_works(chance, 20)
            before = all_of(works)
            deeds = [chance_deed(chance, works) for at in range(chance.randint(1, 4))]
            anew = works.twin()
            try:
                told = works.run(deeds)
            except (GroundError, AbsentError):
                self.assertEqual(all_of(works), before)
                refused += 1
                continue
            done += 1
            self.assertEqual(len(told), len(deeds))
            self.assertEqual(works.edition, anew.edition + 1)
            # A mark may be too far in the middle; where none is the deeds one by one do the same.
            if try_deeds(anew, deeds, as_run=False):
                self.assertEqual(ground_of(anew), ground_of(works))
        self.assertGreater(min(done, refused), 8)

    def test_done_again_is_the_same(self):
        chance = random.Random(41)
        for turn in range(12):
            works = chance_works(chance, 50)
            anew = works_of(*works.done())
            self.assertEqual(anew, works)
            self.assertEqual(anew.done(), works.done())
            self.assertEqual(anew.edition, len(works.done()))
            many = len(works.done())
            self.assertEqual(left(works.undo), many)
            self.assertEqual(works, Works())
            while works.edition % 7:
                try:
                    works.redo()
                except NothingLeft:
                    break
            self.assertEqual(works, works_of(*works.done()))

    def test_each_report(self):
        chance = random.Random(40)
        works = works_of(*START)
        for turn in range(60):
            before = works.stand()
            edition = works.edition
            call = chance.choice((works.undo, works.redo, None, None, None, None))
            try:
                call() if call else works.do(chance_deed(chance, works))
            except (GroundError, AbsentError, NothingLeft):
                self.assertEqual(works.edition, edition)
                continue
            self.assertEqual(works.report(), Report(before, works.stand()))
            self.assertEqual(works.edition, edition + 1)


if __name__ == "__main__":
    unittest.main()
