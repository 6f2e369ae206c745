"""Every name of the interface stands in its file, with its arguments."""

import importlib
import inspect
import unittest

from gromatic.desk import Desk
from gromatic.scales import Scale
from gromatic.works import Works

FUNCTIONS = {
    "gromatic.ratios": {
        "ratio": "(over, under)", "plus": "(one, other)", "minus": "(one, other)", "times": "(one, other)",
        "divided": "(one, other)", "order": "(one, other)", "size": "(one)", "floor": "(one)", "nearest": "(one)",
    },
    "gromatic.adjust": {
        "adjusted": "(survey)", "balanced": "(survey, placing)", "rests": "(survey, placing)",
        "cost": "(survey, placing)", "pull": "(survey, number)",
    },
    "gromatic.rings": {
        "forest": "(survey)", "ring": "(survey, number)", "closing": "(survey, row)", "rings": "(survey)",
    },
    "gromatic.scales": {"drawn": "(spot, step)"},
    "gromatic.corners": {
        "may_pass": "(row, first, last, tolerance)", "kept": "(row, tolerance, *, held=())",
        "pieces_left": "(row, tolerance, *, held=())", "kept_holds": "(row, tolerance, told, numbers, *, held=())",
    },
    "gromatic.distance": {"apart": "(spot, polyline)", "bare": "(ones, others, slack)"},
    "gromatic.lettering": {
        "box_at": "(pair, name, letter, side)", "lettered": "(sites, letter)", "lettered_holds": "(sites, letter, told)",
    },
    "gromatic.tiles": {"cut": "(one, other, box)", "tile_box": "(key, side)"},
    "gromatic.ways": {
        "joins": "(land)", "way": "(land, start, goal)", "way_holds": "(land, start, goal, told)",
    },
    "gromatic.shown": {"shown": "(sheet, marks)", "passed": "(sheet, marks)"},
    "gromatic.texts": {
        "tile_text": "(tile)", "read_tile": "(text)", "deed_text": "(deed)", "read_deed": "(text)",
    },
    "gromatic.pages": {"page": "(works)", "read_page": "(text)"},
}
CLASSES = {
    ("gromatic.survey", "Survey"): {
        "__init__": "(self, marks, readings)", "marks": "(self)", "readings": "(self)", "names": "(self)",
        "hangs": "(self, name)", "pieces": "(self)", "loose": "(self)",
    },
    ("gromatic.land", "Land"): {
        "__init__": "(self, spots, lines, sites)", "spots": "(self)", "lines": "(self)", "sites": "(self)",
        "known": "(self)", "row": "(self, name)", "length": "(self, name)", "held": "(self)",
    },
    ("gromatic.scales", "Scale"): {
        "__init__": "(self, step, *, tolerance=0, letter=1, side=16)", "slack": "(self)",
    },
    ("gromatic.sheet", "Sheet"): {
        "__init__": "(self, land, scale)", "land": "(self)", "scaled": "(self)", "pairs": "(self)", "traces": "(self)",
        "image": "(self, name, number)", "slack_of": "(self, name)", "names": "(self)", "tile": "(self, key)",
        "tiles": "(self)",
    },
    ("gromatic.stand", "Stand"): {
        "__init__": "(self, survey, lines, sites, scales, routes)", "survey": "(self)", "land": "(self)",
        "sheet": "(self, name)", "scales": "(self)", "routes": "(self)", "way": "(self, name)",
    },
    ("gromatic.report", "Report"): {
        "__init__": "(self, before, after)", "marks": "(self)", "drawn": "(self, scale)", "lines": "(self, scale)",
        "names": "(self, scale)", "tiles": "(self, scale)", "routes": "(self)", "shows": "(self, route, scale)",
    },
    ("gromatic.works", "Works"): {
        "__init__": "(self)", "mark": "(self, name, *, at=None)", "fix": "(self, name, at)",
        "read": "(self, one, other, across, up, *, weight=1)", "strike": "(self, number)",
        "mend": "(self, number, across, up, *, weight=None)", "line": "(self, name, kind, marks)",
        "unline": "(self, name)", "site": "(self, name, mark, *, rank=5)", "unsite": "(self, name)",
        "scale": "(self, name, step, *, tolerance=0, letter=1, side=16)", "unscale": "(self, name)",
        "route": "(self, name, start, goal)", "unroute": "(self, name)",
        "note": "(self, scale, site, i, j, *, weight=1)", "do": "(self, deed)", "run": "(self, deeds)",
        "undo": "(self)", "redo": "(self)", "survey": "(self)", "stand": "(self)", "lines": "(self)",
        "sites": "(self)", "scales": "(self)", "routes": "(self)", "report": "(self)", "done": "(self)",
        "twin": "(self)",
    },
    ("gromatic.press", "Press"): {
        "__init__": "(self, works)", "publish": "(self)", "printed": "(self)", "tiles_of": "(self, number)",
        "patch": "(self, number)",
    },
    ("gromatic.reader", "Reader"): {
        "__init__": "(self)", "take": "(self, patch)", "held": "(self)", "lacks": "(self)", "tiles": "(self)",
        "text_at": "(self, scale, a, b)", "twin": "(self)",
    },
    ("gromatic.desk", "Desk"): {"__init__": "(self, *, works=None)", "say": "(self, line)"},
}
CONSTANTS = {
    ("gromatic.survey", "MOST"): 999, ("gromatic.land", "KINDS"): ("road", "shore", "border"),
    ("gromatic.scales", "SIDE"): 16, ("gromatic.lettering", "SIDES"): ("ne", "nw", "se", "sw"),
    ("gromatic.sheet", "REACH"): 120, ("gromatic.works", "RANK"): 5,
}


class Interface(unittest.TestCase):
    def test_constants(self):
        for (module, name), value in CONSTANTS.items():
            self.assertEqual(getattr(importlib.import_module(module), name), value)

    def test_values_of_new_objects(self):
        works = Works()
        self.assertEqual((works.edition, works.calls), (0, 0))
        self.assertIsInstance(Desk().works, Works)
        scale = Scale(4)
        self.assertEqual((scale.step, scale.tolerance, scale.letter, scale.side), (4, 0, 1, 16))

    def test_functions(self):
        for module, names in FUNCTIONS.items():
            for name, arguments in names.items():
                told = getattr(importlib.import_module(module), name)
                self.assertEqual(told.__module__, module)
                self.assertEqual(str(inspect.signature(told)), arguments, name)

    def test_methods_stand_in_the_class_itself(self):
        for (module, name), methods in CLASSES.items():
            told = getattr(importlib.import_module(module), name)
            self.assertEqual(told.__module__, module)
            for method, arguments in methods.items():
                self.assertIn(method, vars(told))
                self.assertEqual(str(inspect.signature(vars(told)[method])), arguments, method)


if __name__ == "__main__":
    unittest.main()
