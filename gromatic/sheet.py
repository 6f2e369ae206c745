"""Sheets: the land drawn at a scale, and cut into tiles."""

from gromatic.checks import is_within
from gromatic.corners import kept, off_line, share_of
from gromatic.distance import gap
from gromatic.errors import NoCorner, TooFar
from gromatic.lettering import lettered
from gromatic.ratios import NOUGHT, between, greater, plus, spot_of
from gromatic.scales import drawn
from gromatic.tiles import cut, keys_along, keys_within, tile_box

REACH = 120


def drawn_pairs(land, step):
    """The drawn pairs of all marks that have spots, by rising names; refused where one is drawn too far."""
    spots = land.spots()
    told = {}
    for name in sorted(spots):
        pair = drawn(spots[name], step)
        if not all([is_within(number, -REACH, REACH) for number in pair]):
            raise TooFar(name, None)
        told[name] = pair
    return told


def drawn_traces(land, tolerance, pairs):
    """For each known line the list of its kept corners, with the drawn pairs of their marks."""
    lines = land.lines()
    held_marks = land.held()
    told = {}
    for name in land.known():
        marks = lines[name][1]
        held = [number for number, mark in enumerate(marks) if mark in held_marks]
        corners = kept(land.row(name), tolerance, held=held)
        told[name] = [(number, pairs[marks[number]]) for number in corners]
    return told


def round_corner(trace, number):
    """The places in a trace of the kept corner at or ahead of a corner, and of the one at or behind it."""
    ahead = [at for at, (corner, pair) in enumerate(trace) if corner <= number]
    behind = [at for at, (corner, pair) in enumerate(trace) if corner >= number]
    return (ahead[-1], behind[0])


def put_in(tiles, key, part, thing):
    """Put a thing into one of the three lists of a tile: 0 for pieces, 1 for sites, 2 for names."""
    if key not in tiles:
        tiles[key] = ([], [], [])
    tiles[key][part].append(thing)


def lay_pieces(tiles, traces, side):
    """Put what the tiles show of the traces into them, by names and numbers."""
    for name in sorted(traces):
        pairs = [pair for corner, pair in traces[name]]
        for number in range(len(pairs) - 1):
            one, other = pairs[number], pairs[number + 1]
            for key in keys_along(spot_of(one), spot_of(other), side):
                start, end = cut(one, other, tile_box(key, side))
                put_in(tiles, key, 0, (name, number, start, end))


def lay_names(tiles, sites, names, side):
    """Put the standing sites and the laid names into the tiles where they lie, by names."""
    for name in sorted(names):
        if names[name][0] == "under":
            continue
        pair = sites[name][0]
        for key in keys_along(spot_of(pair), spot_of(pair), side):
            put_in(tiles, key, 1, (name, pair))
        if names[name][0] == "laid":
            box = names[name][2]
            for key in keys_within(box, side):
                put_in(tiles, key, 2, (name, box))


class Sheet:
    """A land drawn at a scale; it never changes."""

    def __init__(self, land, scale):
        self.own_land = land
        self.own_scale = scale
        self.own_pairs = drawn_pairs(land, scale.step)
        self.own_traces = drawn_traces(land, scale.tolerance, self.own_pairs)
        tiles = {}
        lay_pieces(tiles, self.own_traces, scale.side)
        lay_names(tiles, self.drawn_sites(), self.names(), scale.side)
        self.own_tiles = {key: tiles[key] for key in sorted(tiles)}

    def land(self):
        """The land that is drawn."""
        return self.own_land

    def scaled(self):
        """The scale at which it is drawn."""
        return self.own_scale

    def pairs(self):
        """The dict of the drawn pairs of all marks that have spots."""
        return dict(self.own_pairs)

    def traces(self):
        """The dict from known lines to their kept corners: lists of pairs (number, pair)."""
        return {name: list(self.own_traces[name]) for name in self.own_traces}

    def image(self, name, number):
        """The spot, in steps, where a corner of a known line is shown."""
        row = self.own_land.row(name)
        if not is_within(number, 0, len(row) - 1):
            raise NoCorner(number)
        trace = self.own_traces[name]
        ahead, behind = round_corner(trace, number)
        # Where the corner is kept both are that very corner, and the share is nought.
        share = share_of(row[trace[ahead][0]], row[trace[behind][0]], row[number])
        return between(spot_of(trace[ahead][1]), spot_of(trace[behind][1]), share)

    def slack_of(self, name):
        """How far drawing moved a kept corner of a line, how far off a left out one lies, at the most, and both."""
        row = self.own_land.row(name)
        trace = self.own_traces[name]
        step = self.own_scale.step
        moved = NOUGHT
        for corner, (i, j) in trace:
            moved = greater(moved, gap(row[corner], spot_of((i * step, j * step))))
        off = NOUGHT
        for number in range(len(row)):
            ahead, behind = round_corner(trace, number)
            off = greater(off, off_line(row[trace[ahead][0]], row[trace[behind][0]], row[number]))
        return (moved, off, plus(moved, off))

    def drawn_sites(self):
        """The known sites as tuples (pair, rank), by names."""
        sites = self.own_land.sites()
        return {name: (self.own_pairs[sites[name][0]], sites[name][1]) for name in sites
                if sites[name][0] in self.own_pairs}

    def names(self):
        """How the known sites are lettered."""
        return lettered(self.drawn_sites(), self.own_scale.letter)

    def tile(self, key):
        """What a tile shows: lists of pieces, of sites and of names."""
        pieces, sites, names = self.own_tiles.get(key, ((), (), ()))
        return (list(pieces), list(sites), list(names))

    def tiles(self):
        """The keys of all tiles that have something, rising."""
        return list(self.own_tiles)

    def __eq__(self, other):
        return (isinstance(other, Sheet) and self.own_scale == other.own_scale
                and self.own_tiles == other.own_tiles)

    def __len__(self):
        return len(self.own_tiles)

    def __repr__(self):
        return f"Sheet({len(self.own_tiles)} tiles)"
