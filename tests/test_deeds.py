"""Each deed of a works: what it turns and what it refuses."""

import copy
import functools
import itertools
import unittest

from gromatic.errors import (BadDeed, BadKind, BadName, BadNumber, BadReading, BadRow, BadScale, Full, NoLine, NoMark,
                             NoReading, NoRoute, NoScale, NoSite, NothingFixed, Taken, TooFar)
from gromatic.scales import Scale
from gromatic.survey import Survey
from gromatic.works import RANK, Works
from helpers import refuse

BIG = 10 ** 29
NO_NAMES = ("", "abcdefg", "A", "a1", "a b", "a\n", "-", "\u00e9")


def works_of(*deeds):
    works = Works()
    for deed in deeds:
        works.do(deed)
    return works


def some_works():
    """Marks a, b (fixed), c, d (free); readings 1 to 3; a line, a site, two scales, a route."""
    return works_of(("mark", "a", (0, 0)), ("mark", "b", (60, 10)), ("mark", "c", None), ("mark", "d", None),
                    ("read", "a", "c", 30, 5, 1), ("read", "c", "b", 29, 6, 2), ("read", "c", "d", 8, 40, 3),
                    ("line", "lane", "road", ("a", "c", "b")), ("site", "inn", "c", 5), ("scale", "wide", 10, 0, 1, 16),
                    ("scale", "near", 1, 0, 1, 16), ("route", "whole", "a", "b"))


@functools.cache
def made_full():
    works = works_of(*[("mark", name, (0, 0)) for name in "abcdefghijkl"])
    for at in range(24):
        works.read("a", "b", at, 0)
    for name in "abcdef":
        works.line(name, "road", ("a", "b"))
    for name in "abcdefgh":
        works.site(name, "a")
    for name in "abc":
        works.scale(name, 5)
        works.route(name, "a", "b")
    return works


def full_works():
    """A works in which there is room for nothing more."""
    return made_full().twin()


def all_of(works):
    """All that a works tells but its calls."""
    return copy.deepcopy((works.survey().marks(), works.survey().readings(), works.lines(), works.sites(),
                          {name: str(scale) for name, scale in works.scales().items()}, works.routes(), works.edition,
                          works.done(), str(works.report()), repr(works)))


def by_method(works, deed):
    """Do a deed tuple by its method."""
    word, *things = deed
    names = {"mark": ("at",), "read": ("weight",), "mend": ("weight",), "site": ("rank",), "note": ("weight",),
             "scale": ("tolerance", "letter", "side")}.get(word, ())
    places = len(things) - len(names)
    return getattr(works, word)(*things[:places], **dict(zip(names, things[places:])))


class DeedCase(unittest.TestCase):
    def refused(self, make, error, fields, deed):
        """The deed is refused by its method, by do and in runs; all stays as it was, but for the calls."""
        works = make()
        before, calls = all_of(works), works.calls
        refuse(self, error, fields, by_method, works, deed)
        refuse(self, error, fields, works.do, deed)
        refuse(self, error, fields, works.run, [deed])
        # Its own refusals are looked for when its turn comes, TooFar at the end of the run.
        behind, told = (NoLine, {"name": "nosuch"}) if error is TooFar else (error, fields)
        refuse(self, behind, told, works.run, [deed, ("unline", "nosuch")])
        self.assertEqual(all_of(works), before)
        self.assertEqual(works.calls, calls + 4)
        self.assertEqual(works, make())

    def done(self, make, deed, told=None):
        """The deed is done by its method, by do and in a run, and tells this; the works by its method is told."""
        one, other, third = make(), make(), make()
        for result in (by_method(one, deed), other.do(deed), third.run([deed])[0]):
            self.assertEqual(result, told)
            self.assertIs(type(result), type(told))
        self.assertEqual(one, other)
        self.assertEqual(one, third)
        self.assertEqual(one.done(), other.done())
        self.assertEqual((one.edition, one.calls), (make().edition + 1, make().calls + 1))
        return one


class Marks(DeedCase):
    def test_mark(self):
        for at in (None, (0, 0), (999, -999), (-999, 999)):
            works = self.done(Works, ("mark", "abcdef", at))
            self.assertEqual(works.survey(), Survey({"abcdef": at}, {}))
            self.assertEqual(works.done(), [("mark", "abcdef", at)])

    def test_at_is_none_where_it_is_left_out(self):
        works = Works()
        self.assertIsNone(works.mark("a"))
        works.mark(name="b")
        works.mark(at=(1, 2), name="c")
        self.assertEqual(works.survey().marks(), {"a": None, "b": None, "c": (1, 2)})
        self.assertEqual(works.done(), [("mark", "a", None), ("mark", "b", None), ("mark", "c", (1, 2))])

    def test_mark_refused(self):
        for name in NO_NAMES:
            self.refused(some_works, BadName, {"name": name}, ("mark", name, None))
            self.refused(full_works, BadName, {"name": name}, ("mark", name, (1000, True)))
        for at in (None, (0, 0), (1000, 0)):
            self.refused(some_works, Taken, {"name": "a"}, ("mark", "a", at))
            self.refused(full_works, Taken, {"name": "a"}, ("mark", "a", at))
        for number in (1000, -1000, BIG, -BIG, True, False):
            for at in ((number, 0), (0, number), (number, 2000)):
                self.refused(some_works, BadNumber, {"number": number}, ("mark", "z", at))
                self.refused(full_works, BadNumber, {"number": number}, ("mark", "z", at))
        for at in (None, (0, 0), (999, 999)):
            self.refused(full_works, Full, {"what": "marks"}, ("mark", "z", at))
        self.refused(some_works, TooFar, {"name": "e", "grid": "near"}, ("mark", "e", (121, 0)))

    def test_the_twelfth_mark(self):
        works = works_of(*[("mark", name, None) for name in "abcdefghijkl"])
        self.assertEqual(len(works.survey().names()), 12)
        refuse(self, Full, {"what": "marks"}, works.mark, "m")

    def test_fix(self):
        for name, at in itertools.product("ac", (None, (110, -120), (0, 0))):
            works = self.done(some_works, ("fix", name, at))
            self.assertEqual(works.survey().marks(), {**some_works().survey().marks(), name: at})
            self.assertEqual(works.survey().readings(), some_works().survey().readings())
        works = some_works()
        works.fix(at=(7, 7), name="d")
        self.assertEqual(works.survey().marks()["d"], (7, 7))

    def test_fix_refused(self):
        for name in ("z", "", "abcdefgh", "lane"):
            for at in (None, (1, 1), (1000, 0)):
                self.refused(some_works, NoMark, {"name": name}, ("fix", name, at))
        for number in (1000, -1000, BIG, True, False):
            for at in ((number, 0), (0, number), (number, -2000)):
                self.refused(some_works, BadNumber, {"number": number}, ("fix", "d", at))
        # No room is needed.
        self.done(full_works, ("fix", "a", (1, 1)))
        self.refused(some_works, TooFar, {"name": "d", "grid": "near"}, ("fix", "d", (0, 121)))
        self.refused(some_works, TooFar, {"name": "a", "grid": "near"}, ("fix", "a", (999, 999)))


class Readings(DeedCase):
    def test_read(self):
        for across, up, weight in ((40, -30, 1), (-40, 30, 9), (0, 0, 5)):
            works = self.done(some_works, ("read", "a", "d", across, up, weight), 4)
            self.assertEqual(works.survey().readings()[4], ("a", "d", across, up, weight))
        works = self.done(lambda: works_of(("mark", "a", None), ("mark", "b", None)), ("read", "a", "b", -999, 999, 1), 1)
        self.assertEqual(works.survey(), Survey({"a": None, "b": None}, {1: ("a", "b", -999, 999, 1)}))

    def test_weight_is_one_where_it_is_left_out(self):
        works = some_works()
        self.assertEqual(works.read("a", "b", 1, 2), 4)
        self.assertEqual(works.read(up=4, across=3, other="b", one="a"), 5)
        self.assertEqual(works.read("a", "b", 1, 2, weight=7), 6)
        self.assertEqual([works.survey().readings()[number] for number in (4, 5, 6)],
                         [("a", "b", 1, 2, 1), ("a", "b", 3, 4, 1), ("a", "b", 1, 2, 7)])
        self.assertEqual(works.done()[-3:], [("read", "a", "b", 1, 2, 1), ("read", "a", "b", 3, 4, 1),
                                             ("read", "a", "b", 1, 2, 7)])

    def test_read_refused(self):
        for make in (some_works, full_works):
            number = 4 if make == some_works else 25
            for name in ("z", "", "abcdefgh"):
                self.refused(make, NoMark, {"name": name}, ("read", name, "a", 0, 0, 1))
                self.refused(make, NoMark, {"name": name}, ("read", "a", name, 0, 0, 1))
                self.refused(make, NoMark, {"name": name}, ("read", name, "y", 1000, 1000, 0))
                self.refused(make, NoMark, {"name": name}, ("read", name, name, 1000, 1000, 0))
            self.refused(make, BadReading, {"number": number}, ("read", "a", "a", 0, 0, 1))
            self.refused(make, BadReading, {"number": number}, ("read", "b", "b", 1000, 1000, 0))
            for bad in (1000, -1000, BIG, True, False):
                self.refused(make, BadNumber, {"number": bad}, ("read", "a", "b", bad, 0, 1))
                self.refused(make, BadNumber, {"number": bad}, ("read", "a", "b", 0, bad, 1))
                self.refused(make, BadNumber, {"number": bad}, ("read", "a", "b", bad, 2000, 0))
                self.refused(make, BadNumber, {"number": bad}, ("read", "a", "b", 0, bad, 0))
            for bad in (0, 10, -1, BIG, True, False):
                self.refused(make, BadNumber, {"number": bad}, ("read", "a", "b", 0, 0, bad))
        self.refused(full_works, Full, {"what": "readings"}, ("read", "a", "b", 0, 0, 1))
        # d would lie too far off, and so would c, which hangs together with it and is the first by name.
        self.refused(some_works, TooFar, {"name": "c", "grid": "near"}, ("read", "a", "d", 0, 999, 9))

    def test_room_for_readings_is_of_those_that_are_there(self):
        works = full_works()
        works.strike(7)
        self.assertEqual(works.read("b", "a", 1, 1), 25)
        refuse(self, Full, {"what": "readings"}, works.read, "a", "b", 0, 0)
        self.assertEqual(sorted(works.survey().readings()), [*range(1, 7), *range(8, 26)])

    def test_numbers_rise_and_none_comes_twice(self):
        works = some_works()
        works.strike(3)
        self.assertEqual(works.read("c", "d", 1, 1), 4)
        works.strike(4)
        works.strike(1)
        self.assertEqual(works.read("a", "c", 1, 1), 5)
        refuse(self, BadReading, {"number": 6}, works.read, "a", "a", 0, 0)
        self.assertEqual(works.note("wide", "inn", 3, 1), 6)
        self.assertEqual(sorted(works.survey().readings()), [2, 5, 6])

    def test_strike(self):
        for number in (1, 2, 3):
            works = self.done(some_works, ("strike", number))
            readings = some_works().survey().readings()
            del readings[number]
            self.assertEqual(works.survey().readings(), readings)
        works = some_works()
        works.strike(number=2)
        self.assertEqual(sorted(works.survey().readings()), [1, 3])

    def test_strike_refused(self):
        for number in (0, 4, -1, BIG, True, False):
            self.refused(some_works, NoReading, {"number": number}, ("strike", number))
        works = some_works()
        works.strike(1)
        for number in (1, True):
            refuse(self, NoReading, {"number": number}, works.strike, number)
            refuse(self, NoReading, {"number": number}, works.mend, number, 0, 0)
        # Without the second reading c lies where the first one says.
        far = works_of(("mark", "a", (0, 0)), ("mark", "b", (0, 0)), ("mark", "c", None), ("read", "a", "c", 240, 0, 1),
                       ("read", "b", "c", -40, 0, 1), ("scale", "one", 1, 0, 1, 16))
        self.refused(far.twin, TooFar, {"name": "c", "grid": "one"}, ("strike", 2))
        self.done(far.twin, ("strike", 1))

    def test_mend(self):
        for across, up, weight in ((31, 7, 9), (-9, -9, 1), (30, 5, None)):
            works = self.done(some_works, ("mend", 2, across, up, weight))
            readings = {**some_works().survey().readings(), 2: ("c", "b", across, up, 2 if weight is None else weight)}
            self.assertEqual(works.survey().readings(), readings)
            self.assertEqual(works.done()[-1], ("mend", 2, across, up, weight))

    def test_the_old_weight_where_it_is_left_out(self):
        works = some_works()
        works.mend(3, 9, 41)
        self.assertEqual(works.survey().readings()[3], ("c", "d", 9, 41, 3))
        works.mend(up=3, across=2, number=3, weight=8)
        works.mend(3, 1, 1, weight=None)
        self.assertEqual(works.survey().readings()[3], ("c", "d", 1, 1, 8))
        self.assertEqual(works.done()[-3:], [("mend", 3, 9, 41, None), ("mend", 3, 2, 3, 8), ("mend", 3, 1, 1, None)])

    def test_mend_refused(self):
        for number in (0, 4, -1, BIG, True, False):
            for rest in ((0, 0, None), (1000, 1000, 0)):
                self.refused(some_works, NoReading, {"number": number}, ("mend", number, *rest))
        for weight in (None, 5, 0):
            for bad in (1000, -1000, BIG, True, False):
                self.refused(some_works, BadNumber, {"number": bad}, ("mend", 1, bad, 0, weight))
                self.refused(some_works, BadNumber, {"number": bad}, ("mend", 1, 0, bad, weight))
                self.refused(some_works, BadNumber, {"number": bad}, ("mend", 1, bad, 2000, weight))
        for bad in (0, 10, -1, BIG, True, False):
            self.refused(some_works, BadNumber, {"number": bad}, ("mend", 1, 0, 0, bad))
        self.done(full_works, ("mend", 1, 3, 3, None))
        self.refused(some_works, TooFar, {"name": "d", "grid": "near"}, ("mend", 3, 8, 400, None))


class Lines(DeedCase):
    def test_line(self):
        for kind in ("road", "shore", "border"):
            for marks in (("a", "b"), tuple("abcdabcd"), ("a", "b", "a"), ["d", "c"], list("abababab")):
                works = self.done(some_works, ("line", "dike", kind, marks))
                self.assertEqual(works.lines(), {"lane": ("road", ("a", "c", "b")), "dike": (kind, tuple(marks))})
                self.assertEqual(works.done()[-1], ("line", "dike", kind, tuple(marks)))
        works = some_works()
        works.line(marks=["a", "d"], kind="shore", name="a")
        self.assertEqual(works.lines()["a"], ("shore", ("a", "d")))

    def test_line_refused(self):
        for make in (some_works, full_works):
            taken = "lane" if make == some_works else "a"
            for name in NO_NAMES:
                self.refused(make, BadName, {"name": name}, ("line", name, "road", ("a", "b")))
                self.refused(make, BadName, {"name": name}, ("line", name, "river", ()))
            self.refused(make, Taken, {"name": taken}, ("line", taken, "road", ("a", "b")))
            self.refused(make, Taken, {"name": taken}, ("line", taken, "river", ()))
            for kind in ("river", "", "Road", "roads"):
                self.refused(make, BadKind, {"kind": kind}, ("line", "z", kind, ("a", "b")))
                self.refused(make, BadKind, {"kind": kind}, ("line", "z", kind, ("a",)))
            for marks in ((), [], ("a",), ["a"], tuple("abababab" + "a"), list("abababab" + "a"), ("a", "a"), ["a", "a"],
                          ("a", "b", "b", "a"), ["x", "y", "y"], ("x",)):
                self.refused(make, BadRow, {"given": marks}, ("line", "z", "road", marks))
            for marks in (("x", "a"), ["a", "x"], ("a", "b", "x", "y"), ("x", "y", "x")):
                self.refused(make, NoMark, {"name": "x"}, ("line", "z", "road", marks))
        self.refused(full_works, Full, {"what": "lines"}, ("line", "z", "road", ("a", "b")))

    def test_handed_marks_may_be_changed_behind(self):
        works = some_works()
        marks, others, third = ["a", "b"], ["b", "c"], ["c", "d"]
        works.line("one", "road", marks)
        works.do(("line", "two", "road", others))
        works.run([("line", "three", "road", third)])
        for given in (marks, others, third):
            given.append("x")
        self.assertEqual([works.lines()[name][1] for name in ("one", "two", "three")],
                         [("a", "b"), ("b", "c"), ("c", "d")])
        self.assertEqual(works.done()[-3:], [("line", "one", "road", ("a", "b")), ("line", "two", "road", ("b", "c")),
                                             [("line", "three", "road", ("c", "d"))]])

    def test_a_bad_row_may_be_changed_behind(self):
        marks = ["a", "a"]
        with self.assertRaises(BadRow) as caught:
            some_works().line("z", "road", marks)
        marks.clear()
        self.assertEqual(caught.exception.given, ["a", "a"])

    def test_unline(self):
        works = self.done(some_works, ("unline", "lane"))
        self.assertEqual(works.lines(), {})
        for name in ("z", "", "abcdefgh", "inn"):
            self.refused(some_works, NoLine, {"name": name}, ("unline", name))
        works.line(name="lane", kind="shore", marks=("a", "b"))
        works.unline(name="lane")
        self.assertEqual(works.lines(), {})


class Sites(DeedCase):
    def test_site(self):
        for rank in (1, 9):
            works = self.done(some_works, ("site", "mill", "d", rank))
            self.assertEqual(works.sites(), {"inn": ("c", 5), "mill": ("d", rank)})

    def test_rank_is_five_where_it_is_left_out(self):
        self.assertEqual(RANK, 5)
        works = some_works()
        works.site("mill", "d")
        works.site(mark="d", name="well", rank=2)
        self.assertEqual(works.sites(), {"inn": ("c", 5), "mill": ("d", 5), "well": ("d", 2)})
        self.assertEqual(works.done()[-2:], [("site", "mill", "d", 5), ("site", "well", "d", 2)])

    def test_site_refused(self):
        for make in (some_works, full_works):
            taken = "inn" if make == some_works else "a"
            for name in NO_NAMES:
                self.refused(make, BadName, {"name": name}, ("site", name, "a", 5))
                self.refused(make, BadName, {"name": name}, ("site", name, "x", 0))
            self.refused(make, Taken, {"name": taken}, ("site", taken, "a", 5))
            self.refused(make, Taken, {"name": taken}, ("site", taken, "x", 0))
            for mark in ("x", "", "abcdefgh"):
                self.refused(make, NoMark, {"name": mark}, ("site", "z", mark, 5))
                self.refused(make, NoMark, {"name": mark}, ("site", "z", mark, 0))
            for rank in (0, 10, -1, BIG, True, False):
                self.refused(make, BadNumber, {"number": rank}, ("site", "z", "a", rank))
        self.refused(full_works, Full, {"what": "sites"}, ("site", "z", "a", 5))

    def test_unsite(self):
        works = self.done(some_works, ("unsite", "inn"))
        self.assertEqual(works.sites(), {})
        for name in ("z", "", "abcdefgh", "lane"):
            self.refused(some_works, NoSite, {"name": name}, ("unsite", name))
        works = some_works()
        works.unsite(name="inn")
        self.assertEqual(works.sites(), {})


class Scales(DeedCase):
    def test_scale(self):
        for parts in ((1, 0, 1, 8), (100, 100, 9, 64)):
            works = self.done(some_works, ("scale", "far", *parts))
            self.assertEqual(sorted(works.scales()), ["far", "near", "wide"])
            self.assertEqual(str(works.scales()["far"]), " ".join(map(str, parts)))

    def test_defaults(self):
        works = some_works()
        works.scale("far", 7)
        self.assertEqual(works.scales()["far"], Scale(7))
        self.assertEqual(works.done()[-1], ("scale", "far", 7, 0, 1, 16))
        works.unscale(name="far")
        works.scale(step=7, name="far", side=8, letter=2, tolerance=3)
        self.assertEqual(works.scales()["far"], Scale(7, tolerance=3, letter=2, side=8))
        for more, told in (({"side": 9}, (0, 1, 9)), ({"letter": 3}, (0, 3, 16)), ({"tolerance": 4}, (4, 1, 16))):
            works.unscale("far")
            works.scale("far", 7, **more)
            self.assertEqual(works.done()[-1], ("scale", "far", 7, *told))

    def test_scale_refused(self):
        bad = {"step": (0, 101, -1, BIG, True), "tolerance": (-1, 101, BIG, True, False), "letter": (0, 10, BIG, True),
               "side": (7, 65, -BIG, False)}
        for make in (some_works, full_works):
            taken = "wide" if make == some_works else "a"
            for name in NO_NAMES:
                self.refused(make, BadName, {"name": name}, ("scale", name, 5, 0, 1, 16))
                self.refused(make, BadName, {"name": name}, ("scale", name, 0, 0, 1, 16))
            self.refused(make, Taken, {"name": taken}, ("scale", taken, 5, 0, 1, 16))
            self.refused(make, Taken, {"name": taken}, ("scale", taken, 0, 0, 1, 16))
            for at, part in enumerate(bad):
                for number in bad[part]:
                    good = [5, 0, 1, 16]
                    good[at] = number
                    self.refused(make, BadScale, {"part": part}, ("scale", "z", *good))
                    self.refused(make, BadScale, {"part": part}, ("scale", "z", *good[:at + 1], *[-5] * (3 - at)))
        self.refused(full_works, Full, {"what": "scales"}, ("scale", "z", 5, 0, 1, 16))

    def test_scale_too_far(self):
        def far():
            return works_of(("mark", "b", (999, 0)), ("mark", "a", (0, 500)), ("mark", "x", None),
                            ("scale", "m", 9, 0, 1, 16))

        self.refused(far, TooFar, {"name": "b", "grid": "z"}, ("scale", "z", 8, 0, 1, 16))
        self.refused(far, TooFar, {"name": "a", "grid": "c"}, ("scale", "c", 4, 0, 1, 16))
        self.refused(far, BadScale, {"part": "side"}, ("scale", "c", 4, 0, 1, 7))
        self.done(far, ("scale", "z", 9, 0, 1, 16))
        self.refused(full_works, Full, {"what": "scales"}, ("scale", "z", 1, 0, 1, 16))

    def test_unscale(self):
        works = self.done(some_works, ("unscale", "near"))
        self.assertEqual(works.scales(), {"wide": Scale(10)})
        for name in ("z", "", "abcdefgh", "inn"):
            self.refused(some_works, NoScale, {"name": name}, ("unscale", name))


class Routes(DeedCase):
    def test_route(self):
        for start, goal in (("a", "b"), ("b", "b"), ("d", "a")):
            works = self.done(some_works, ("route", "trip", start, goal))
            self.assertEqual(works.routes(), {"whole": ("a", "b"), "trip": (start, goal)})
        works = some_works()
        works.route(goal="a", start="d", name="trip")
        self.assertEqual(works.routes()["trip"], ("d", "a"))

    def test_route_refused(self):
        for make in (some_works, full_works):
            taken = "whole" if make == some_works else "a"
            for name in NO_NAMES:
                self.refused(make, BadName, {"name": name}, ("route", name, "a", "b"))
                self.refused(make, BadName, {"name": name}, ("route", name, "x", "y"))
            self.refused(make, Taken, {"name": taken}, ("route", taken, "a", "b"))
            self.refused(make, Taken, {"name": taken}, ("route", taken, "x", "y"))
            for mark in ("x", "", "abcdefgh"):
                self.refused(make, NoMark, {"name": mark}, ("route", "z", mark, "a"))
                self.refused(make, NoMark, {"name": mark}, ("route", "z", "a", mark))
                self.refused(make, NoMark, {"name": mark}, ("route", "z", mark, "y"))
        self.refused(full_works, Full, {"what": "routes"}, ("route", "z", "a", "b"))

    def test_unroute(self):
        works = self.done(some_works, ("unroute", "whole"))
        self.assertEqual(works.routes(), {})
        for name in ("z", "", "abcdefgh", "inn"):
            self.refused(some_works, NoRoute, {"name": name}, ("unroute", name))
        works = some_works()
        works.unroute(name="whole")
        self.assertEqual(works.routes(), {})


class Notes(DeedCase):
    def test_note(self):
        for i, j, weight in ((3, 1, 1), (0, 0, 9), (4, -2, 5)):
            works = self.done(some_works, ("note", "wide", "inn", i, j, weight), 4)
            self.assertEqual(works.survey().readings()[4], ("a", "c", 10 * i, 10 * j, weight))
            self.assertEqual(works.done()[-1], ("note", "wide", "inn", i, j, weight))

    def test_from_the_first_fixed_mark_by_name(self):
        works = works_of(("mark", "d", (5, 6)), ("mark", "c", (-7, 8)), ("mark", "a", None), ("mark", "z", (1, 1)),
                         ("site", "inn", "a", 5), ("scale", "wide", 10, 0, 1, 16))
        self.assertEqual(works.note("wide", "inn", 2, -3), 1)
        self.assertEqual(works.survey().readings(), {1: ("c", "a", 27, -38, 1)})
        # Its spot would be step times the pair.
        self.assertEqual(works.stand().land().spots()["a"], ((20, 1), (-30, 1)))
        self.assertEqual(works.note(weight=3, j=1, i=0, site="inn", scale="wide"), 2)
        self.assertEqual(works.survey().readings()[2], ("c", "a", 7, 2, 3))

    def test_note_refused(self):
        def free():
            return works_of(("mark", "a", None), ("site", "inn", "a", 5), ("scale", "wide", 10, 0, 1, 16))

        def at_fixed():
            return works_of(("mark", "a", (900, -900)), ("mark", "b", None), ("site", "inn", "a", 5),
                            ("site", "mill", "b", 5), ("scale", "wide", 100, 0, 1, 16))

        for name in ("z", "", "abcdefgh", "inn"):
            self.refused(free, NoScale, {"name": name}, ("note", name, "inn", 0, 0, 1))
            self.refused(free, NoScale, {"name": name}, ("note", name, "z", 1000, 0, 0))
        for name in ("z", "", "abcdefgh", "wide"):
            self.refused(free, NoSite, {"name": name}, ("note", "wide", name, 0, 0, 1))
            self.refused(free, NoSite, {"name": name}, ("note", "wide", name, 1000, 0, 0))
        self.refused(free, NothingFixed, {}, ("note", "wide", "inn", 0, 0, 1))
        self.refused(free, NothingFixed, {}, ("note", "wide", "inn", 1000, 1000, 0))
        self.refused(at_fixed, BadReading, {"number": 1}, ("note", "wide", "inn", 9, -9, 1))
        self.refused(at_fixed, BadReading, {"number": 1}, ("note", "wide", "inn", 1000, 0, 0))
        # The reading's number is refused, not i or j: 100 times -1 less 900, and so on.
        self.refused(at_fixed, BadNumber, {"number": -1000}, ("note", "wide", "mill", -1, 0, 1))
        self.refused(at_fixed, BadNumber, {"number": 1000}, ("note", "wide", "mill", 0, 1, 1))
        self.refused(at_fixed, BadNumber, {"number": 1100}, ("note", "wide", "mill", 20, 1, 0))
        self.refused(at_fixed, BadNumber, {"number": 100 * BIG - 900}, ("note", "wide", "mill", BIG, 0, 1))
        for weight in (0, 10, True, False):
            self.refused(at_fixed, BadNumber, {"number": weight}, ("note", "wide", "mill", 0, 0, weight))
        works = self.done(at_fixed, ("note", "wide", "mill", 9, -9, 1), 1)
        self.assertEqual(works.survey().readings()[1], ("a", "b", 0, 0, 1))

    def test_note_in_full_works(self):
        def full():
            works = full_works()
            works.unsite("a")
            works.site("z", "c")
            return works

        self.refused(full, Full, {"what": "readings"}, ("note", "a", "z", 0, 0, 1))
        self.refused(full, BadNumber, {"number": 1000}, ("note", "a", "z", 200, 0, 1))
        self.refused(full, BadReading, {"number": 25}, ("note", "a", "b", 0, 0, 1))

    def test_note_too_far(self):
        def far():
            return works_of(("mark", "a", (0, 0)), ("mark", "b", None), ("site", "inn", "b", 5),
                            ("scale", "wide", 5, 0, 1, 16), ("scale", "narrow", 4, 0, 1, 16))

        self.refused(far, TooFar, {"name": "b", "grid": "narrow"}, ("note", "wide", "inn", 0, 120, 1))
        self.done(far, ("note", "wide", "inn", 0, 96, 1), 1)


class TooFarBehind(DeedCase):
    def test_grids_and_marks_by_rising_names(self):
        def make():
            return works_of(("mark", "d", None), ("mark", "c", None), ("mark", "b", (0, 0)), ("read", "b", "d", 50, 0, 1),
                            ("read", "d", "c", 0, 50, 1), ("scale", "z", 1, 0, 1, 16), ("scale", "y", 2, 0, 1, 16))

        self.refused(make, TooFar, {"name": "c", "grid": "z"}, ("mend", 1, 121, 0, None))
        self.refused(make, TooFar, {"name": "c", "grid": "z"}, ("mend", 2, 0, 121, None))
        self.refused(make, TooFar, {"name": "c", "grid": "y"}, ("mend", 1, 300, 0, None))
        self.refused(make, TooFar, {"name": "b", "grid": "y"}, ("fix", "b", (300, 0)))
        self.refused(make, TooFar, {"name": "a", "grid": "z"}, ("mark", "a", (0, -121)))
        self.done(make, ("mark", "a", (0, -120)))
        self.done(make, ("mend", 1, 120, 0, None))

    def test_loose_marks_are_not_drawn(self):
        works = works_of(("mark", "a", None), ("mark", "b", None), ("scale", "s", 1, 0, 1, 16),
                         ("read", "a", "b", 999, 999, 1))
        refuse(self, TooFar, {"name": "b", "grid": "s"}, works.fix, "a", (0, 0))
        works.unscale("s")
        works.fix("a", (0, 0))
        refuse(self, TooFar, {"name": "b", "grid": "t"}, works.scale, "t", 8)

    def test_full_ahead_of_too_far(self):
        self.refused(full_works, Full, {"what": "marks"}, ("mark", "z", (999, 999)))
        self.refused(full_works, BadNumber, {"number": 1000}, ("mark", "z", (999, 1000)))

        def tight():
            works = full_works()
            works.fix("b", None)
            return works

        self.refused(tight, Full, {"what": "readings"}, ("read", "a", "b", 999, 0, 9))


class BadDeeds(unittest.TestCase):
    GOOD = (("mark", "e", None), ("fix", "d", (1, 1)), ("read", "a", "b", 0, 0, 1), ("strike", 1), ("mend", 1, 0, 0, None),
            ("line", "z", "road", ("a", "b")), ("unline", "lane"), ("site", "z", "a", 5), ("unsite", "inn"),
            ("scale", "z", 5, 0, 1, 16), ("unscale", "wide"), ("route", "z", "a", "b"), ("unroute", "whole"),
            ("note", "wide", "inn", 0, 0, 1))

    def refused(self, word, deed):
        works = some_works()
        before, calls = all_of(works), works.calls
        refuse(self, BadDeed, {"word": word}, works.do, deed)
        refuse(self, BadDeed, {"word": word}, works.run, [deed])
        self.assertEqual((all_of(works), works.calls), (before, calls + 2))

    def test_the_empty_tuple(self):
        self.refused("", ())

    def test_other_words(self):
        for word in ("", "dig", "Mark", "marks", "undo", "redo", "run", "do", "twin", "report", "survey", "mark "):
            self.refused(word, (word,))
            self.refused(word, (word, "a"))
            self.refused(word, (word, "e", None))

    def test_other_lengths(self):
        for deed in self.GOOD:
            some_works().do(deed)
            self.refused(deed[0], deed[:-1])
            self.refused(deed[0], deed[:1])
            self.refused(deed[0], (*deed, 1))
            self.refused(deed[0], (*deed, None))

    def test_ahead_of_other_refusals(self):
        self.refused("mark", ("mark", "", (1000, 0), 1))
        self.refused("line", ("line", "", "river", (), 1))


if __name__ == "__main__":
    unittest.main()
