"""The press: editions of all tiles of a works, and the patches that lead from each to the next one."""

from gromatic.checks import is_within
from gromatic.errors import NoEdition
from gromatic.report import changed
from gromatic.texts import tile_text


def tile_texts(stand):
    """The dict from (scale's name, a, b) to the texts of all tiles of a stand that have something."""
    told = {}
    for name in stand.scales():
        sheet = stand.sheet(name)
        for a, b in sheet.tiles():
            told[(name, a, b)] = tile_text(sheet.tile((a, b)))
    return told


class Press:
    """Prints editions of one works; a printed edition stays as it is."""

    def __init__(self, works):
        self.works = works
        self.editions = [{}]

    def publish(self):
        """Print all tiles as the works stands; the new edition's number is told."""
        self.editions.append(tile_texts(self.works.stand()))
        return self.printed()

    def printed(self):
        """The number of the last edition."""
        return len(self.editions) - 1

    def check_edition(self, number, first):
        """Refuse what is no number from first to that of the last edition."""
        if not is_within(number, first, self.printed()):
            raise NoEdition(number)

    def tiles_of(self, number):
        """The dict from (scale's name, a, b) to the text of each tile of an edition."""
        self.check_edition(number, 0)
        tiles = self.editions[number]
        return {key: tiles[key] for key in tiles}

    def patch(self, number):
        """What leads from the edition ahead to this one: a tuple (number, rows)."""
        self.check_edition(number, 1)
        old, new = self.editions[number - 1], self.editions[number]
        return (number, [(scale, a, b, new.get((scale, a, b), "")) for scale, a, b in changed(old, new)])
