"""Reports: what turned from one stand to another, at each stage."""

from gromatic.errors import NoRoute, NoScale
from gromatic.shown import shown


def changed(one, other):
    """The keys, rising, that two dicts do not both have with the same value."""
    return [key for key in sorted(set(list(one) + list(other)))
            if key not in one or key not in other or one[key] != other[key]]


def pairs_of(stand, scale):
    """The drawn pairs at a scale, by marks; none where the stand has no such scale."""
    return stand.sheet(scale).pairs() if scale in stand.scales() else {}


def traces_of(stand, scale):
    """The traces at a scale, by lines; none where the stand has no such scale."""
    return stand.sheet(scale).traces() if scale in stand.scales() else {}


def letterings_of(stand, scale):
    """The letterings at a scale, by sites; none where the stand has no such scale."""
    return stand.sheet(scale).names() if scale in stand.scales() else {}


def tiles_of_sheet(stand, scale):
    """The tiles at a scale that have something, by keys; none where the stand has no such scale."""
    if scale not in stand.scales():
        return {}
    sheet = stand.sheet(scale)
    return {key: sheet.tile(key) for key in sheet.tiles()}


def ways_of(stand):
    """The ways, or None, by routes."""
    return {name: stand.way(name) for name in stand.routes()}


def shown_in(stand, route, scale):
    """The shown list of a route at a scale; empty where there is no way, no route or no scale."""
    told = ways_of(stand).get(route)
    if told is None or scale not in stand.scales():
        return []
    return shown(stand.sheet(scale), told[1])


class Report:
    """What turned, came or went from the stand before to the stand after; it never changes."""

    def __init__(self, before, after):
        self.before = before
        self.after = after

    def known_scales(self):
        """The names of the scales that one of the stands has, rising."""
        return sorted(set(self.before.scales() + self.after.scales()))

    def known_routes(self):
        """The names of the routes that one of the stands has, rising."""
        return sorted(set(self.before.routes() + self.after.routes()))

    def check_scale(self, scale):
        """Refuse a scale that neither stand has."""
        if scale not in self.known_scales():
            raise NoScale(scale)

    def marks(self):
        """The marks whose spot is another one, rising."""
        return changed(self.before.land().spots(), self.after.land().spots())

    def drawn(self, scale):
        """The marks whose drawn pair is another one, rising."""
        self.check_scale(scale)
        return changed(pairs_of(self.before, scale), pairs_of(self.after, scale))

    def lines(self, scale):
        """The lines whose trace is another one, rising."""
        self.check_scale(scale)
        return changed(traces_of(self.before, scale), traces_of(self.after, scale))

    def names(self, scale):
        """The sites whose lettering is another one, rising."""
        self.check_scale(scale)
        return changed(letterings_of(self.before, scale), letterings_of(self.after, scale))

    def tiles(self, scale):
        """The keys of the tiles whose lists are others, rising."""
        self.check_scale(scale)
        return changed(tiles_of_sheet(self.before, scale), tiles_of_sheet(self.after, scale))

    def routes(self):
        """The routes whose way is another one, rising."""
        return changed(ways_of(self.before), ways_of(self.after))

    def shows(self, route, scale):
        """Whether the shown list of a route at a scale is another one."""
        if route not in self.known_routes():
            raise NoRoute(route)
        self.check_scale(scale)
        return shown_in(self.before, route, scale) != shown_in(self.after, route, scale)

    def all_tiles(self):
        """The tiles of all scales whose lists are others, as pairs (scale, key)."""
        return [(scale, key) for scale in self.known_scales() for key in self.tiles(scale)]

    def told_at(self, scale):
        """All that is told of a scale."""
        return (self.drawn(scale), self.lines(scale), self.names(scale), self.tiles(scale),
                [self.shows(route, scale) for route in self.known_routes()])

    def all_told(self):
        """All that this report tells."""
        return (self.marks(), self.known_routes(), self.routes(),
                {scale: self.told_at(scale) for scale in self.known_scales()})

    def __eq__(self, other):
        return isinstance(other, Report) and self.all_told() == other.all_told()

    def __len__(self):
        return len(self.marks() + self.all_tiles())

    def __str__(self):
        return f"marks {len(self.marks())}, tiles {len(self.all_tiles())}"
