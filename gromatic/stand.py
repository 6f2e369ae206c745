"""Stands: all that is drawn of a survey."""

from gromatic.adjust import adjusted
from gromatic.errors import NoRoute, NoScale, TooFar
from gromatic.land import Land
from gromatic.sheet import Sheet, drawn_pairs
from gromatic.ways import way_or_none


def check_reach(land, scales):
    """Refuse a mark that is drawn too far off at a scale, scale by scale."""
    for grid in sorted(scales):
        try:
            drawn_pairs(land, scales[grid].step)
        except TooFar as refusal:
            raise TooFar(refusal.name, grid) from None


class Stand:
    """A survey, its land, a sheet for each scale and a way for each route; it never changes."""

    def __init__(self, survey, lines, sites, scales, routes):
        self.own_survey = survey
        self.own_land = Land(adjusted(survey), lines, sites)
        check_reach(self.own_land, scales)
        self.own_sheets = {name: Sheet(self.own_land, scales[name]) for name in sorted(scales)}
        self.own_ways = {name: way_or_none(self.own_land, routes[name][0], routes[name][1])
                         for name in sorted(routes)}

    def survey(self):
        """The survey that is drawn."""
        return self.own_survey

    def land(self):
        """The land, with the adjusted placing as spots."""
        return self.own_land

    def sheet(self, name):
        """The sheet of a scale."""
        if name not in self.own_sheets:
            raise NoScale(name)
        return self.own_sheets[name]

    def scales(self):
        """The names of the scales, rising."""
        return list(self.own_sheets)

    def routes(self):
        """The names of the routes, rising."""
        return list(self.own_ways)

    def way(self, name):
        """The way of a route: a tuple (length, marks, prices), or None."""
        if name not in self.own_ways:
            raise NoRoute(name)
        if self.own_ways[name] is None:
            return None
        length, marks, prices = self.own_ways[name]
        return (length, list(marks), dict(prices))
