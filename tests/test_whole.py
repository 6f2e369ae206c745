"""The whole program, from readings to what far readers hold."""

import random
import unittest

from gromatic.adjust import adjusted, balanced
from gromatic.desk import Desk
from gromatic.distance import bare
from gromatic.errors import AbsentError, GroundError
from gromatic.land import Land
from gromatic.pages import page, read_page
from gromatic.press import Press
from gromatic.ratios import order
from gromatic.reader import Reader
from gromatic.sheet import Sheet
from gromatic.survey import Survey
from gromatic.texts import deed_text, read_tile, tile_text
from gromatic.ways import way_holds
from gromatic.works import Works
from helpers import START, chance_deed


def drawn_anew(works):
    """What drawing the whole land anew shows: the texts of all tiles."""
    survey = Survey(works.survey().marks(), works.survey().readings())
    land = Land(adjusted(survey), works.lines(), works.sites())
    told = {}
    for name, scale in works.scales().items():
        sheet = Sheet(land, scale)
        for key in sheet.tiles():
            told[(name, *key)] = tile_text(sheet.tile(key))
    return told


def go_on(chance, works, desk):
    """One turn of a works: a deed, a run, a line said at the desk, or something taken back."""
    way = chance.randrange(8)
    try:
        if way == 0:
            works.undo()
        elif way == 1:
            works.redo()
        elif way < 4:
            works.run([chance_deed(chance, works) for at in range(2)])
        elif way < 6:
            desk.say(deed_text(chance_deed(chance, works)))
        else:
            works.do(chance_deed(chance, works))
    except (GroundError, AbsentError, IndexError):
        pass


class Whole(unittest.TestCase):
    def within_slack(self, works):
        """Each drawn piece lies within the slack of the land's line, and the line within the slack of what is drawn."""
        stand = works.stand()
        land = stand.land()
        for name in stand.scales():
            sheet = stand.sheet(name)
            step, slack = sheet.scaled().step, sheet.scaled().slack()
            for line, trace in sheet.traces().items():
                polyline = [((i * step, 1), (j * step, 1)) for corner, (i, j) in trace]
                self.assertIsNone(bare(polyline, land.row(line), slack))
                self.assertIsNone(bare(land.row(line), polyline, slack))
                self.assertLessEqual(order(sheet.slack_of(line)[2], slack), 0)

    def shown_right(self, works):
        """The placing is balanced, and each way is proved by its prices."""
        stand = works.stand()
        self.assertTrue(balanced(works.survey(), stand.land().spots()))
        for name, (start, goal) in works.routes().items():
            if stand.way(name) is not None:
                self.assertTrue(way_holds(stand.land(), start, goal, stand.way(name)))

    def test_end_to_end(self):
        chance = random.Random(1)
        for turn in range(6):
            works = Works()
            works.run(list(START))
            desk, press = Desk(works=works), Press(works)
            one, other = Reader(), Reader()
            anew = [{}]
            for edition in range(1, 13):
                go_on(chance, works, desk)
                go_on(chance, works, desk)
                self.assertEqual(press.publish(), edition)
                anew.append(drawn_anew(works))
                self.within_slack(works)
                self.shown_right(works)
                one.take(press.patch(chance.randint(1, edition)))
                self.assertEqual(one.tiles(), anew[one.held()])
            for reader in (one, other):
                order_of = list(range(1, 13)) + [chance.randint(1, 12) for at in range(6)]
                chance.shuffle(order_of)
                for number in order_of:
                    reader.take(press.patch(number))
                    self.assertEqual(reader.tiles(), anew[reader.held()])
                self.assertEqual((reader.held(), reader.lacks()), (12, []))
                self.assertEqual(reader.tiles(), drawn_anew(works))
            self.page_holds(works, one)

    def page_holds(self, works, reader):
        """What a page tells again draws what the reader holds."""
        again = read_page(page(works))
        self.assertEqual(again, works)
        press = Press(again)
        press.publish()
        self.assertEqual(press.tiles_of(1), reader.tiles())
        stand = again.stand()
        for (name, a, b), text in reader.tiles().items():
            self.assertEqual(read_tile(text), stand.sheet(name).tile((a, b)))
            self.assertEqual(Desk(works=again).say(f"tile {name} {a} {b}"), text.replace("\n", " ; "))

    def test_the_tiles_of_a_report_are_those_of_the_patch(self):
        chance = random.Random(2)
        works = Works()
        works.run(list(START))
        press = Press(works)
        press.publish()
        for turn in range(60):
            edition = works.edition
            try:
                works.do(chance_deed(chance, works))
            except (GroundError, AbsentError):
                continue
            self.assertEqual(works.edition, edition + 1)
            number, rows = press.patch(press.publish())
            report = works.report()
            scales = sorted({row[0] for row in rows})
            self.assertEqual([row[:3] for row in rows], [(name, *key) for name in scales for key in report.tiles(name)])
            self.assertEqual(len(report), len(report.marks()) + len(rows))


if __name__ == "__main__":
    unittest.main()
