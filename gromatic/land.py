"""The land: lines and sites that lie on marks with spots."""

from gromatic.errors import Loose, NoLine
from gromatic.ratios import NOUGHT, plus, stretch

KINDS = ("road", "shore", "border")


class Land:
    """Spots of marks, lines and sites; it never changes."""

    def __init__(self, spots, lines, sites):
        self.own_spots = {name: spots[name] for name in sorted(spots)}
        self.own_lines = {name: lines[name] for name in sorted(lines)}
        self.own_sites = {name: sites[name] for name in sorted(sites)}

    def spots(self):
        """The dict from marks to spots."""
        return dict(self.own_spots)

    def lines(self):
        """The dict from names to tuples (kind, marks)."""
        return dict(self.own_lines)

    def sites(self):
        """The dict from names to tuples (mark, rank)."""
        return dict(self.own_sites)

    def known(self):
        """The names of the lines all of whose marks have spots, rising."""
        return [name for name in sorted(self.own_lines)
                if all([mark in self.own_spots for mark in self.own_lines[name][1]])]

    def row(self, name):
        """The spots of a line's marks, in order."""
        if name not in self.own_lines:
            raise NoLine(name)
        told = []
        for mark in self.own_lines[name][1]:
            if mark not in self.own_spots:
                raise Loose(mark)
            told.append(self.own_spots[mark])
        return told

    def length(self, name):
        """The length of a line, from each spot to the next one."""
        spots = self.row(name)
        total = NOUGHT
        for at in range(1, len(spots)):
            total = plus(total, stretch(spots[at - 1], spots[at]))
        return total

    def held(self):
        """The marks that no line may leave out, rising."""
        ends = []
        stands = []
        for name in self.known():
            marks = self.own_lines[name][1]
            ends.extend(marks[:1])
            ends.extend(marks[-1:])
            stands.extend(marks)
        twice = [mark for mark in stands if stands.count(mark) > 1]
        sited = [mark for mark, rank in self.own_sites.values() if mark in self.own_spots]
        return sorted(set(ends + twice + sited))

    def __eq__(self, other):
        return (isinstance(other, Land) and self.own_spots == other.own_spots
                and self.own_lines == other.own_lines and self.own_sites == other.own_sites)

    def __repr__(self):
        return f"Land({len(self.own_lines)} lines, {len(self.own_sites)} sites)"
