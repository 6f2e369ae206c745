"""Ways shown: the pieces of a sheet that a way leads along, and the tiles that it passes."""

from gromatic.errors import Loose, NoWay
from gromatic.ratios import spot_of
from gromatic.sheet import round_corner
from gromatic.tiles import keys_along
from gromatic.ways import roads


def places_of(land, one, other):
    """Where both marks stand next to one another: the first known road by name, and the first place of each there.

    None where they do so nowhere.
    """
    for name, marks in roads(land):
        for at in range(1, len(marks)):
            if (marks[at - 1], marks[at]) == (one, other):
                return (name, at - 1, at)
            if (marks[at - 1], marks[at]) == (other, one):
                return (name, at, at - 1)
    return None


def shown(sheet, marks):
    """For each mark of a way and the next one the tuple (name, number, spot, spot) of the piece that shows it."""
    spots = sheet.land().spots()
    for mark in marks:
        if mark not in spots:
            raise Loose(mark)
    traces = sheet.traces()
    told = []
    for at in range(1, len(marks)):
        places = places_of(sheet.land(), marks[at - 1], marks[at])
        if places is None:
            raise NoWay([])
        name, one, other = places
        number = round_corner(traces[name], min(one, other))[0]
        told.append((name, number, sheet.image(name, one), sheet.image(name, other)))
    return told


def passed(sheet, marks):
    """The keys of the tiles that have a point of a way, rising."""
    ends = [(start, end) for name, number, start, end in shown(sheet, marks)]
    if len(marks) == 1:
        spot = spot_of(sheet.pairs()[marks[0]])
        ends = [(spot, spot)]
    keys = []
    for start, end in ends:
        keys.extend(keys_along(start, end, sheet.scaled().side))
    return sorted(set(keys))
