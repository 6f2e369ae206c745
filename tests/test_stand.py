import copy
import itertools
import random
import unittest

from gromatic.adjust import adjusted
from gromatic.errors import NoRoute, NoScale, TooFar
from gromatic.land import Land
from gromatic.scales import Scale
from gromatic.sheet import Sheet
from gromatic.stand import Stand
from gromatic.survey import Survey
from gromatic.ways import way
from helpers import chance_works, filled, refuse, spot

# b lies at 61/6 across: two readings disagree; x and y are loose.
MARKS = {"a": (0, 0), "b": None, "c": (40, 0), "x": None, "y": None}
READINGS = {1: ("a", "b", 10, 2, 1), 2: ("b", "c", 29, -2, 5), 3: ("x", "y", 1, 1, 1)}
LINES = {"lane": ("road", ("a", "b")), "path": ("road", ("b", "c")), "moor": ("road", ("x", "y"))}
SITES = {"farm": ("b", 3), "barn": ("x", 1)}
SCALES = {"wide": Scale(10), "near": Scale(2, tolerance=1)}
ROUTES = {"whole": ("a", "c"), "back": ("c", "a"), "stay": ("b", "b")}


def stand_of(scales=SCALES, routes=ROUTES, marks=MARKS, readings=READINGS, lines=LINES, sites=SITES):
    return Stand(Survey(marks, readings), lines, sites, scales, routes)


class Telling(unittest.TestCase):
    def test_survey_and_land(self):
        stand = stand_of()
        survey = Survey(MARKS, READINGS)
        self.assertEqual(stand.survey(), survey)
        self.assertEqual(stand.land(), Land(adjusted(survey), LINES, SITES))
        self.assertEqual(stand.land().spots()["b"], ((65, 6), (2, 1)))
        self.assertEqual(sorted(stand.land().spots()), ["a", "b", "c"])

    def test_sheets(self):
        stand = stand_of()
        for name in SCALES:
            sheet = stand.sheet(name)
            self.assertEqual(sheet, Sheet(stand.land(), SCALES[name]))
            self.assertEqual(sheet.scaled(), SCALES[name])
            self.assertEqual(sheet.land(), stand.land())
        self.assertEqual(stand.sheet("wide").pairs(), {"a": (0, 0), "b": (1, 0), "c": (4, 0)})
        self.assertEqual(stand.sheet("near").pairs(), {"a": (0, 0), "b": (5, 1), "c": (20, 0)})

    def test_names_rise(self):
        for scales in itertools.permutations(("c", "a", "b")):
            for routes in itertools.permutations(("p", "a", "z")):
                stand = stand_of(scales={name: Scale(9) for name in scales}, routes={name: ("a", "b") for name in routes})
                self.assertEqual(stand.scales(), ["a", "b", "c"])
                self.assertEqual(stand.routes(), ["a", "p", "z"])

    def test_ways(self):
        stand = stand_of()
        for name, (start, goal) in ROUTES.items():
            self.assertEqual(stand.way(name), way(stand.land(), start, goal))
        length, marks, prices = stand.way("back")
        self.assertEqual((length, marks), ((44, 1), ["c", "b", "a"]))
        self.assertEqual(prices, {"c": (0, 1), "b": (187, 6), "a": (44, 1)})
        self.assertEqual(stand.way("stay")[:2], ((0, 1), ["b"]))

    def test_no_way(self):
        alone = {**MARKS, "d": (1, 1)}
        routes = {"tied": ("a", "d"), "loose": ("a", "x"), "free": ("y", "x"), "same": ("x", "x"), "no": ("a", "nomark"),
                  "none": ("strange", "names"), "long": ("abcdefgh", "a"), "good": ("d", "d")}
        stand = stand_of(routes=routes, marks=alone)
        self.assertEqual(stand.routes(), sorted(routes))
        for name in routes:
            if name == "good":
                self.assertEqual(stand.way(name), ((0, 1), ["d"], {"d": (0, 1)}))
            else:
                self.assertIsNone(stand.way(name), name)

    def test_of_nothing(self):
        stand = Stand(Survey({}, {}), {}, {}, {}, {})
        self.assertEqual((stand.survey(), stand.land()), (Survey({}, {}), Land({}, {}, {})))
        self.assertEqual((stand.scales(), stand.routes()), ([], []))
        refuse(self, NoScale, {"name": "a"}, stand.sheet, "a")
        refuse(self, NoRoute, {"name": "a"}, stand.way, "a")

    def test_by_names(self):
        stand = Stand(routes=ROUTES, scales=SCALES, sites=SITES, lines=LINES, survey=Survey(MARKS, READINGS))
        self.assertEqual(stand.sheet(name="wide"), stand_of().sheet("wide"))
        self.assertEqual(stand.way(name="whole"), stand_of().way("whole"))

    def test_lines_and_sites_of_marks_that_the_survey_has_not(self):
        stand = stand_of(lines={"moor": ("road", ("a", "q"))}, sites={"inn": ("q", 1)})
        self.assertEqual((stand.land().known(), stand.sheet("wide").tiles()), ([], []))

    def test_of_works_of_chance(self):
        chance = random.Random(36)
        for turn in range(15):
            works = chance_works(chance, 40)
            stand = works.stand()
            self.assertEqual(stand.land(), Land(adjusted(works.survey()), works.lines(), works.sites()))
            self.assertEqual((stand.scales(), stand.routes()), (sorted(works.scales()), sorted(works.routes())))
            for name, scale in works.scales().items():
                self.assertEqual(stand.sheet(name), Sheet(stand.land(), scale))


class Refusing(unittest.TestCase):
    def test_absent(self):
        stand = stand_of()
        for name in ("whole", "", "nosuchscale", "wid"):
            refuse(self, NoScale, {"name": name}, stand.sheet, name)
        for name in ("wide", "", "nosuchroute", "wholes"):
            refuse(self, NoRoute, {"name": name}, stand.way, name)

    def test_too_far(self):
        marks = {"a": (120, -120), "c": (0, 0), "b": (121, 0), "d": (0, -300)}
        scales = {"one": Scale(1), "two": Scale(2), "abc": Scale(3)}
        for names in itertools.permutations(scales):
            for order in itertools.permutations(marks):
                refuse(self, TooFar, {"name": "b", "grid": "one"}, stand_of, scales=filled(scales, names), routes={},
                       marks=filled(marks, order), readings={})
        # Scale by scale: the first scale by name that has such a mark, though a lesser mark is too far at a later one.
        marks = {"a": (200, 0), "d": (0, -300)}
        scales = {"z": Scale(1), "b": Scale(2), "a": Scale(5)}
        refuse(self, TooFar, {"name": "d", "grid": "b"}, stand_of, scales=scales, routes={}, marks=marks, readings={})

    def test_at_the_bound(self):
        stand = stand_of(scales={"a": Scale(1)}, marks={"a": (120, -120)}, readings={}, routes={})
        self.assertEqual(stand.sheet("a").pairs(), {"a": (120, -120)})

    def test_loose_marks_and_no_scales_are_never_too_far(self):
        marks = {"a": (999, 999), "x": None, "y": None}
        self.assertEqual(stand_of(scales={}, routes={}, marks=marks, readings={}).land().spots(), {"a": spot(999, 999)})
        stand = stand_of(scales={"a": Scale(1)}, routes={}, marks={"x": None, "y": None},
                         readings={1: ("x", "y", 999, 0, 1)})
        self.assertEqual(stand.sheet("a").pairs(), {})


class Copies(unittest.TestCase):
    def all_of(self, stand):
        return copy.deepcopy((stand.survey().marks(), stand.land().lines(), stand.land().sites(), stand.scales(),
                              stand.routes(), [stand.way(name) for name in stand.routes()],
                              [stand.sheet(name).tiles() for name in stand.scales()]))

    def test_what_was_handed_in_may_be_changed(self):
        handed = [dict(SCALES), dict(ROUTES), dict(MARKS), dict(READINGS), dict(LINES), dict(SITES)]
        stand = stand_of(*handed)
        before = self.all_of(stand)
        for each in handed:
            each.clear()
        self.assertEqual(self.all_of(stand), before)
        self.assertEqual(stand.sheet("wide").scaled(), Scale(10))

    def test_what_was_told_may_be_changed(self):
        stand = stand_of()
        before = self.all_of(stand)
        length, marks, prices = stand.way("whole")
        for told in (marks, prices, stand.scales(), stand.routes(), stand.land().spots(), stand.land().lines(),
                     stand.survey().marks(), stand.survey().readings(), stand.sheet("wide").tiles()):
            told.clear()
        self.assertEqual(self.all_of(stand), before)

    def test_what_was_handed_in_is_not_changed(self):
        handed = [dict(SCALES), dict(ROUTES), dict(MARKS), dict(READINGS), dict(LINES), dict(SITES)]
        stand_of(*handed)
        self.assertEqual(handed, [SCALES, ROUTES, MARKS, READINGS, LINES, SITES])


if __name__ == "__main__":
    unittest.main()
