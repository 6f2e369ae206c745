import unittest

from gromatic import errors
from helpers import refuse

GROUND = {
    "BadName": ("name",), "BadNumber": ("number",), "BadReading": ("number",), "BadKind": ("kind",),
    "BadRow": ("given",), "BadScale": ("part",), "BadDeed": ("word",), "BadText": ("at",),
    "Taken": ("name",), "Full": ("what",), "TooFar": ("name", "grid"), "NothingFixed": (),
}
ABSENT = {
    "NoMark": ("name",), "NoReading": ("number",), "NoLine": ("name",), "NoSite": ("name",),
    "NoScale": ("name",), "NoRoute": ("name",), "NoCorner": ("number",), "NoEdition": ("number",),
    "Loose": ("name",), "NoWay": ("side",),
}
ALONE = {"NothingLeft": IndexError, "NoRatio": ZeroDivisionError}
FAMILIES = {"GroundError": ValueError, "AbsentError": LookupError}
VALUES = {
    "name": "anna", "number": True, "kind": "river", "given": ["a", "a"], "part": "step",
    "word": "dig", "at": 0, "what": "marks", "grid": None, "side": ["a", "b"],
}


def all_names():
    return [*GROUND, *ABSENT, *ALONE, *FAMILIES]


class Families(unittest.TestCase):
    def test_families_stand_straight_under_pythons_classes(self):
        for name, base in {**FAMILIES, **ALONE}.items():
            self.assertEqual(getattr(errors, name).__bases__, (base,))

    def test_each_stands_straight_under_its_family(self):
        for name in GROUND:
            self.assertEqual(getattr(errors, name).__bases__, (errors.GroundError,))
        for name in ABSENT:
            self.assertEqual(getattr(errors, name).__bases__, (errors.AbsentError,))

    def test_none_is_under_another_one(self):
        for name in [*GROUND, *ABSENT, *ALONE]:
            family = "GroundError" if name in GROUND else "AbsentError" if name in ABSENT else name
            for other in all_names():
                if other not in (name, family):
                    self.assertFalse(issubclass(getattr(errors, name), getattr(errors, other)), (name, other))

    def test_each_can_be_caught_as_pythons_own(self):
        for names, base in ((GROUND, ValueError), (ABSENT, LookupError)):
            for name, fields in names.items():
                with self.assertRaises(base):
                    raise getattr(errors, name)(*[VALUES[field] for field in fields])

    def test_each_is_defined_in_the_file(self):
        for name in all_names():
            self.assertEqual(getattr(errors, name).__module__, "gromatic.errors")


class Fields(unittest.TestCase):
    def test_made_with_fields_in_the_told_order(self):
        for name, fields in {**GROUND, **ABSENT}.items():
            told = getattr(errors, name)(*[VALUES[field] for field in fields])
            for field in fields:
                self.assertEqual(getattr(told, field), VALUES[field])
                self.assertIs(type(getattr(told, field)), type(VALUES[field]))
            self.assertIsInstance(str(told), str)

    def test_made_with_fields_by_name(self):
        for name, fields in {**GROUND, **ABSENT}.items():
            told = getattr(errors, name)(**{field: VALUES[field] for field in fields})
            self.assertEqual([getattr(told, field) for field in fields], [VALUES[field] for field in fields])

    def test_too_far_has_name_then_grid(self):
        told = errors.TooFar("anna", "big")
        self.assertEqual((told.name, told.grid), ("anna", "big"))

    def test_made_without_their_fields_they_are_refused(self):
        for name, fields in {**GROUND, **ABSENT}.items():
            if fields:
                refuse(self, TypeError, {}, getattr(errors, name))

    def test_those_without_fields(self):
        for name in ("NothingFixed", "NothingLeft", "NoRatio"):
            self.assertEqual(vars(getattr(errors, name)()), {})

    def test_lists_are_kept_as_copies(self):
        given = ["a", "b"]
        row, way = errors.BadRow(given), errors.NoWay(given)
        given.append("c")
        self.assertEqual(row.given, ["a", "b"])
        self.assertEqual(way.side, ["a", "b"])

    def test_a_row_keeps_its_kind(self):
        self.assertEqual(errors.BadRow(("a",)).given, ("a",))
        self.assertEqual(errors.BadRow(["a"]).given, ["a"])


if __name__ == "__main__":
    unittest.main()
