import copy
import random
import unittest

from gromatic.errors import NoRoute, NoScale
from gromatic.report import Report
from gromatic.scales import Scale
from gromatic.shown import shown
from gromatic.stand import Stand
from gromatic.survey import Survey
from helpers import chance_deed, chance_works, refuse, try_deeds

MARKS = {"a": (0, 0), "b": (20, 0), "c": (40, 0), "d": (0, 40), "x": None}
LINES = {"lane": ("road", ("a", "b", "c")), "path": ("road", ("a", "d"))}
SITES = {"inn": ("b", 3), "mill": ("d", 5)}
SCALES = {"near": Scale(2), "wide": Scale(10, side=8)}
ROUTES = {"back": ("c", "a"), "no": ("a", "x"), "up": ("a", "d")}


def stand_of(marks=None, lines=None, sites=None, scales=None, routes=None, readings=None):
    """The stand of these things beside those above; where a name has "gone" it is left out."""
    told = []
    for things, more in ((MARKS, marks), (LINES, lines), (SITES, sites), (SCALES, scales), (ROUTES, routes)):
        both = {**things, **(more or {})}
        told.append({name: both[name] for name in both if both[name] != "gone"})
    return Stand(Survey(told[0], readings or {}), *told[1:])


def lists_of(report, scale):
    return [report.drawn(scale), report.lines(scale), report.names(scale), report.tiles(scale)]


def turned_anew(before, after):
    """The keys, rising, of what two dicts do not both have alike, key by key."""
    keys = sorted(set(before) | set(after))
    return [key for key in keys if (key in before, before.get(key)) != (key in after, after.get(key))]


def sheet_dicts(stand, scale):
    """What a report compares of a sheet: four dicts, empty ones where there is none."""
    if scale not in stand.scales():
        return [{}, {}, {}, {}]
    sheet = stand.sheet(scale)
    return [sheet.pairs(), sheet.traces(), sheet.names(), {key: sheet.tile(key) for key in sheet.tiles()}]


def shown_anew(stand, route, scale):
    if route not in stand.routes() or scale not in stand.scales() or stand.way(route) is None:
        return []
    return shown(stand.sheet(scale), stand.way(route)[1])


class Turned(unittest.TestCase):
    def test_nothing(self):
        report = Report(stand_of(), stand_of())
        self.assertEqual((report.marks(), report.routes(), len(report), str(report)), ([], [], 0, "marks 0, tiles 0"))
        for scale in SCALES:
            self.assertEqual(lists_of(report, scale), [[], [], [], []])
            for route in ROUTES:
                self.assertIs(report.shows(route, scale), False)

    def test_of_nothing(self):
        empty = Stand(Survey({}, {}), {}, {}, {}, {})
        report = Report(empty, empty)
        self.assertEqual((report.marks(), report.routes(), len(report), str(report)), ([], [], 0, "marks 0, tiles 0"))

    def test_a_mark_moved(self):
        # d goes from (0, 40) to (0, 46): at wide it is drawn at (0, 5) and not at (0, 4).
        report = Report(stand_of(), stand_of(marks={"d": (0, 46)}))
        self.assertEqual(report.marks(), ["d"])
        self.assertEqual(report.drawn("wide"), ["d"])
        self.assertEqual(report.lines("wide"), ["path"])
        self.assertEqual(report.names("wide"), ["mill"])
        self.assertEqual(report.tiles("wide"), [(-1, 0), (0, 0)])
        self.assertEqual(report.routes(), ["back", "up"])
        self.assertEqual([report.shows(route, "wide") for route in ("back", "no", "up")], [False, False, True])
        many = len(report.tiles("wide")) + len(report.tiles("near"))
        self.assertEqual((len(report), str(report)), (1 + many, f"marks 1, tiles {many}"))

    def test_a_mark_moved_but_not_drawn_elsewhere(self):
        report = Report(stand_of(), stand_of(marks={"d": (0, 41)}))
        self.assertEqual(report.marks(), ["d"])
        self.assertEqual(lists_of(report, "wide"), [[], [], [], []])
        self.assertEqual(report.drawn("near"), ["d"])
        self.assertIs(report.shows("up", "wide"), False)
        self.assertIs(report.shows("up", "near"), True)

    def test_prices_alone_are_another_way(self):
        # The way of back stays the same, but d, which it can come to, lies farther off.
        before, after = stand_of(), stand_of(marks={"d": (0, 41)})
        self.assertEqual(before.way("back")[:2], after.way("back")[:2])
        self.assertEqual(Report(before, after).routes(), ["back", "up"])

    def test_spots_that_came_and_went(self):
        tied = stand_of(readings={1: ("a", "x", 9, 9, 1)})
        for one, other in ((stand_of(), tied), (tied, stand_of())):
            report = Report(one, other)
            self.assertEqual(report.marks(), ["x"])
            self.assertEqual(lists_of(report, "wide"), [["x"], [], [], []])
            # x has a spot but no road leads there: there is no way, before and after.
            self.assertEqual(report.routes(), [])
            self.assertEqual((len(report), str(report)), (1, "marks 1, tiles 0"))

    def test_lines_that_came_and_went(self):
        bare = stand_of(lines={"path": "gone"})
        for one, other in ((stand_of(), bare), (bare, stand_of())):
            report = Report(one, other)
            self.assertEqual(report.marks(), [])
            self.assertEqual(lists_of(report, "wide"), [[], ["path"], [], [(-1, -1), (-1, 0), (0, -1), (0, 0)]])
            self.assertEqual(report.routes(), ["back", "up"])
            self.assertEqual([report.shows(route, "wide") for route in ("back", "no", "up")], [False, False, True])

    def test_a_line_that_is_not_known_is_nothing(self):
        report = Report(stand_of(), stand_of(lines={"moor": ("road", ("a", "x"))}))
        self.assertEqual((report.marks(), report.routes(), len(report)), ([], [], 0))

    def test_sites_that_came_and_went(self):
        bare = stand_of(sites={"mill": "gone"})
        for one, other in ((stand_of(), bare), (bare, stand_of())):
            report = Report(one, other)
            self.assertEqual(lists_of(report, "wide"), [[], [], ["mill"], [(-1, 0), (0, 0)]])

    def test_a_lettering_turned_by_another_site(self):
        report = Report(stand_of(), stand_of(sites={"well": ("d", 4)}))
        self.assertEqual(report.names("wide"), ["mill", "well"])

    def test_corners_left_out_turn_the_trace_of_a_line_whose_marks_stay(self):
        # Without its site b is held no more.
        report = Report(stand_of(), stand_of(sites={"inn": "gone"}))
        self.assertEqual(lists_of(report, "wide")[:3], [[], ["lane"], ["inn"]])
        self.assertIs(report.shows("back", "wide"), True)

    def test_another_kind_of_line(self):
        report = Report(stand_of(), stand_of(lines={"path": ("shore", ("a", "d"))}))
        self.assertEqual(lists_of(report, "wide"), [[], [], [], []])
        self.assertEqual(report.routes(), ["back", "up"])
        self.assertIs(report.shows("up", "wide"), True)


class Alone(unittest.TestCase):
    def test_a_scale_that_one_has_alone(self):
        bare = stand_of(scales={"wide": "gone"})
        whole = stand_of().sheet("wide")
        for one, other in ((stand_of(), bare), (bare, stand_of())):
            report = Report(one, other)
            self.assertEqual(lists_of(report, "wide"), [["a", "b", "c", "d"], ["lane", "path"], ["inn", "mill"],
                                                        whole.tiles()])
            self.assertEqual(lists_of(report, "near"), [[], [], [], []])
            self.assertEqual([report.shows(route, "wide") for route in ("back", "no", "up")], [True, False, True])
            self.assertEqual((len(report), str(report)), (len(whole), f"marks 0, tiles {len(whole)}"))

    def test_another_scale_of_the_same_name(self):
        report = Report(stand_of(), stand_of(scales={"wide": Scale(10, side=16)}))
        self.assertEqual(lists_of(report, "wide")[:3], [[], [], []])
        report = Report(stand_of(), stand_of(scales={"wide": Scale(20, side=8)}))
        self.assertEqual(report.drawn("wide"), ["b", "c", "d"])

    def test_a_route_that_one_has_alone(self):
        # no has no way: it came or went all the same, but nothing of it is shown.
        bare = stand_of(routes={"no": "gone", "up": "gone"})
        for one, other in ((stand_of(), bare), (bare, stand_of())):
            report = Report(one, other)
            self.assertEqual(report.routes(), ["no", "up"])
            self.assertEqual([report.shows(route, "near") for route in ("back", "no", "up")], [False, False, True])

    def test_a_route_and_a_scale_that_never_met(self):
        one, other = stand_of(routes={"up": "gone"}), stand_of(scales={"wide": "gone"})
        for report in (Report(one, other), Report(other, one)):
            self.assertIs(report.shows("up", "wide"), False)
            self.assertIs(report.shows("back", "wide"), True)
            self.assertIs(report.shows("up", "near"), True)

    def test_a_route_of_one_mark_shows_nothing(self):
        report = Report(stand_of(), stand_of(routes={"stay": ("a", "a")}))
        self.assertEqual(report.routes(), ["stay"])
        self.assertIs(report.shows("stay", "wide"), False)


class Refusing(unittest.TestCase):
    def test_no_scale(self):
        report = Report(stand_of(scales={"wide": "gone"}), stand_of(scales={"near": "gone"}))
        for name in ("far", "", "nosuchscale", "lane", "back"):
            for call in (report.drawn, report.lines, report.names, report.tiles):
                refuse(self, NoScale, {"name": name}, call, name)
            refuse(self, NoScale, {"name": name}, report.shows, "back", name)
        self.assertEqual(len(lists_of(report, "wide") + lists_of(report, "near")), 8)

    def test_no_route_ahead_of_no_scale(self):
        report = Report(stand_of(routes={"up": "gone"}), stand_of(routes={"back": "gone"}))
        for name in ("far", "", "nosuchroute", "wide"):
            refuse(self, NoRoute, {"name": name}, report.shows, name, "wide")
            refuse(self, NoRoute, {"name": name}, report.shows, name, "nosuchscale")
        refuse(self, NoScale, {"name": "nosuch"}, report.shows, "back", "nosuch")
        refuse(self, NoScale, {"name": "nosuch"}, report.shows, "up", "nosuch")

    def test_by_names(self):
        report = Report(after=stand_of(marks={"d": (0, 46)}), before=stand_of())
        self.assertEqual(report, Report(stand_of(), stand_of(marks={"d": (0, 46)})))
        self.assertEqual(report.drawn(scale="wide"), ["d"])
        self.assertEqual((report.lines(scale="wide"), report.names(scale="wide")), (["path"], ["mill"]))
        self.assertEqual(report.tiles(scale="wide"), [(-1, 0), (0, 0)])
        self.assertIs(report.shows(scale="wide", route="up"), True)


class Alike(unittest.TestCase):
    def is_like(self, told, one, other):
        self.assertIs(one == other, told)
        self.assertIs(other == one, told)
        self.assertIs(one != other, not told)

    def test_the_same(self):
        moved = {"d": (0, 46)}
        self.is_like(True, Report(stand_of(), stand_of(marks=moved)), Report(stand_of(), stand_of(marks=moved)))
        # The way about does not matter, as the same is told.
        self.is_like(True, Report(stand_of(), stand_of(marks=moved)), Report(stand_of(marks=moved), stand_of()))

    def test_stands_that_differ_but_turn_nothing(self):
        moved = stand_of(marks={"d": (9, 9)})
        self.is_like(True, Report(moved, moved), Report(stand_of(), stand_of()))

    def test_other_scales_and_routes_known(self):
        plain = Report(stand_of(), stand_of())
        less = stand_of(scales={"wide": "gone"})
        self.is_like(False, plain, Report(less, less))
        self.is_like(True, Report(stand_of(), less), Report(less, stand_of()))
        less = stand_of(routes={"no": "gone"})
        self.is_like(False, plain, Report(less, less))
        named = stand_of(scales={"wide": "gone", "broad": SCALES["wide"]})
        self.is_like(False, plain, Report(named, named))

    def test_each_list_counts(self):
        base = {"marks": {"d": (0, 41)}}
        report = Report(stand_of(), stand_of(**base))
        for more in ({"marks": {"d": (0, 41), "x": (1, 1)}}, {**base, "lines": {"lane": ("road", ("c", "b", "a"))}},
                     {**base, "sites": {"inn": ("b", 4), "well": ("b", 3)}}, {**base, "routes": {"no": ("c", "a")}}):
            self.is_like(False, report, Report(stand_of(), stand_of(**more)))

    def test_shows_count(self):
        # The routes turned are the same; on the sheet the one way is shown, the other is not.
        bare = stand_of(routes={"up": "gone"})
        stays = stand_of(routes={"up": ("a", "a")})
        self.assertEqual(Report(bare, stand_of()).routes(), Report(bare, stays).routes())
        self.is_like(False, Report(bare, stand_of()), Report(bare, stays))

    def test_things_of_another_kind(self):
        report = Report(stand_of(), stand_of())
        for other in (None, 0, "marks 0, tiles 0", [], {}, (), stand_of(), Scale(4)):
            self.is_like(False, report, other)


class Chance(unittest.TestCase):
    def test_sentence_by_sentence(self):
        chance = random.Random(37)
        seen = set()
        for turn in range(25):
            works = chance_works(chance, 30)
            before = works.stand()
            for at in range(3):
                try_deeds(works, [chance_deed(chance, works)], as_run=False)
            after = works.stand()
            report = Report(before, after)
            spots = turned_anew(before.land().spots(), after.land().spots())
            self.assertEqual(report.marks(), spots)
            many = 0
            for scale in set(before.scales() + after.scales()):
                anew = [turned_anew(*pair) for pair in zip(sheet_dicts(before, scale), sheet_dicts(after, scale))]
                self.assertEqual(lists_of(report, scale), anew)
                many += len(anew[3])
                seen |= {at for at in range(4) if anew[at]}
                for route in set(before.routes() + after.routes()):
                    turns = shown_anew(before, route, scale) != shown_anew(after, route, scale)
                    self.assertIs(report.shows(route, scale), turns)
                    seen.add(("shows", turns))
            ways = [{route: stand.way(route) for route in stand.routes()} for stand in (before, after)]
            self.assertEqual(report.routes(), turned_anew(*ways))
            self.assertEqual((len(report), str(report)), (len(spots) + many, f"marks {len(spots)}, tiles {many}"))
        self.assertEqual(seen, {0, 1, 2, 3, ("shows", True), ("shows", False)})


class Copies(unittest.TestCase):
    def test_what_was_told_may_be_changed(self):
        report = Report(stand_of(), stand_of(marks={"d": (0, 46)}))

        def all_of():
            return [report.marks(), report.routes(), *lists_of(report, "wide"), *lists_of(report, "near")]

        before = copy.deepcopy(all_of())
        for told in all_of():
            self.assertTrue(told)
            told.clear()
        self.assertEqual(all_of(), before)


if __name__ == "__main__":
    unittest.main()
