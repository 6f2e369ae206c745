"""Works: a survey and all that is drawn of it, changed by deeds that can be taken back."""

from gromatic.deeds import Ground, carry_out, check_deed, check_ground, settled
from gromatic.errors import NothingLeft
from gromatic.report import Report
from gromatic.scales import SIDE

RANK = 5


class Works:
    """Marks, readings, lines, sites, scales and routes, and the deeds that made them."""

    def __init__(self):
        self.edition = 0
        self.calls = 0
        # No ground is changed any more once it stands here, so that past, future and twins may have it in common.
        self.ground = Ground()
        self.earlier = self.ground
        # Tuples of a deed or a run, the ground ahead of it and the ground behind it; the last one is the next to go.
        self.past = []
        self.future = []

    def mark(self, name, *, at=None):
        """A new mark, fixed at a pair of numbers, or free."""
        return self.do(("mark", name, at))

    def fix(self, name, at):
        """A mark fixed at another pair, or free for None."""
        return self.do(("fix", name, at))

    def read(self, one, other, across, up, *, weight=1):
        """A new reading; its number is told."""
        return self.do(("read", one, other, across, up, weight))

    def strike(self, number):
        """A reading gone."""
        return self.do(("strike", number))

    def mend(self, number, across, up, *, weight=None):
        """Other numbers for a reading, the old weight where none is handed in."""
        return self.do(("mend", number, across, up, weight))

    def line(self, name, kind, marks):
        """A new line."""
        return self.do(("line", name, kind, marks))

    def unline(self, name):
        """A line gone."""
        return self.do(("unline", name))

    def site(self, name, mark, *, rank=RANK):
        """A new site."""
        return self.do(("site", name, mark, rank))

    def unsite(self, name):
        """A site gone."""
        return self.do(("unsite", name))

    def scale(self, name, step, *, tolerance=0, letter=1, side=SIDE):
        """A new scale."""
        return self.do(("scale", name, step, tolerance, letter, side))

    def unscale(self, name):
        """A scale gone."""
        return self.do(("unscale", name))

    def route(self, name, start, goal):
        """A new route."""
        return self.do(("route", name, start, goal))

    def unroute(self, name):
        """A route gone."""
        return self.do(("unroute", name))

    def note(self, scale, site, i, j, *, weight=1):
        """A new reading, by the drawn pair at which a reader saw a site; its number is told."""
        return self.do(("note", scale, site, i, j, weight))

    def do(self, deed):
        """Do a deed, a tuple of its word and all of its things; what it tells is told."""
        self.calls += 1
        check_deed(deed)
        ground = self.ground.twin()
        told = carry_out(ground, deed)
        check_ground(ground)
        self.go_on(settled(deed), ground)
        return told

    def run(self, deeds):
        """Do all deeds of a list as one, or none; what each tells is told in a list."""
        self.calls += 1
        for deed in deeds:
            check_deed(deed)
        if not deeds:
            return []
        ground = self.ground.twin()
        told = []
        for deed in deeds:
            told.append(carry_out(ground, deed))
        check_ground(ground)
        self.go_on([settled(deed) for deed in deeds], ground)
        return told

    def undo(self):
        """Take the last deed or run back."""
        self.calls += 1
        if not self.past:
            raise NothingLeft("nothing is left to undo")
        entry, ahead, behind = self.past.pop()
        self.future.append((entry, ahead, behind))
        self.turn_to(ahead)

    def redo(self):
        """Do the last deed or run that was taken back again."""
        self.calls += 1
        if not self.future:
            raise NothingLeft("nothing is left to redo")
        entry, ahead, behind = self.future.pop()
        self.past.append((entry, ahead, behind))
        self.turn_to(behind)

    def go_on(self, entry, ground):
        """Keep a deed or a run that led to another ground, and turn to it."""
        self.past.append((entry, self.ground, ground))
        self.future = []
        self.turn_to(ground)

    def turn_to(self, ground):
        """Have another ground, in a new edition."""
        self.earlier = self.ground
        self.ground = ground
        self.edition += 1

    def survey(self):
        """The survey of the marks and readings."""
        return self.ground.survey()

    def stand(self):
        """All that is drawn."""
        return self.ground.stand()

    def lines(self):
        """The dict from names to tuples (kind, marks)."""
        return dict(self.ground.own_lines)

    def sites(self):
        """The dict from names to tuples (mark, rank)."""
        return dict(self.ground.own_sites)

    def scales(self):
        """The dict from names to Scales."""
        return dict(self.ground.own_scales)

    def routes(self):
        """The dict from names to tuples (start, goal)."""
        return dict(self.ground.own_routes)

    def report(self):
        """What the last deed, run, undo or redo turned."""
        return Report(self.earlier.stand(), self.ground.stand())

    def done(self):
        """The deeds, and the runs as lists of deeds, that stand, the eldest first."""
        return [list(entry) if isinstance(entry, list) else entry for entry, ahead, behind in self.past]

    def twin(self):
        """Another works that has all that this one has, and goes its own way."""
        other = Works()
        other.edition = self.edition
        other.calls = self.calls
        other.ground = self.ground
        other.earlier = self.earlier
        other.past = list(self.past)
        other.future = list(self.future)
        return other

    def __eq__(self, other):
        return isinstance(other, Works) and self.ground == other.ground

    def __repr__(self):
        return f"Works({len(self.survey().marks())} marks, {len(self.lines())} lines, {len(self.scales())} scales)"
