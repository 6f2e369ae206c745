"""Readers: far off, kept up to date by a press's patches, whatever order they come in."""


class Reader:
    """Holds the tiles of one edition, and keeps the patches that came too early."""

    def __init__(self):
        self.number = 0
        self.texts = {}
        self.waiting = {}

    def take(self, patch):
        """Take a patch in; how many editions the reader came on is told."""
        number, rows = patch
        if number <= self.number or number in self.waiting:
            return 0
        self.waiting[number] = list(rows)
        came = 0
        while self.number + 1 in self.waiting:
            self.lay_in(self.waiting.pop(self.number + 1))
            came += 1
        return came

    def lay_in(self, rows):
        """Go on by one edition."""
        for scale, a, b, text in rows:
            if text == "":
                self.texts.pop((scale, a, b), "")
            else:
                self.texts[(scale, a, b)] = text
        self.number += 1

    def held(self):
        """The number of the edition that it holds."""
        return self.number

    def lacks(self):
        """The numbers below the greatest kept one that it neither holds nor keeps, rising."""
        greatest = max(list(self.waiting), default=0)
        return [number for number in range(self.number + 1, greatest) if number not in self.waiting]

    def tiles(self):
        """The dict from (scale's name, a, b) to the text of each tile that it holds."""
        return {key: self.texts[key] for key in self.texts}

    def text_at(self, scale, a, b):
        """The text of a tile, "" where none is."""
        return self.texts.get((scale, a, b), "")

    def twin(self):
        """Another reader that has what this one has, and goes its own way."""
        other = Reader()
        other.number = self.number
        other.texts = self.tiles()
        # Rows that wait are never changed, so both may have them in common.
        other.waiting = dict(self.waiting)
        return other
