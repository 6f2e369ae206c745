"""Deeds: what each of them refuses, and what it turns on the ground that a works has."""

from gromatic.adjust import adjusted
from gromatic.checks import check_name, check_number
from gromatic.errors import (BadDeed, BadKind, BadRow, Full, NoLine, NoMark, NoRoute, NoScale, NoSite, NothingFixed,
                             Taken)
from gromatic.land import KINDS, Land
from gromatic.scales import Scale
from gromatic.stand import Stand, check_reach
from gromatic.survey import Survey, check_place, check_reading, reading_at

# For each deed its things in order, as deeds are read: a "place" and a "weight" may be None.
SHAPES = {
    "mark": ("name", "place"),
    "fix": ("name", "place"),
    "read": ("name", "name", "number", "number", "number"),
    "strike": ("number",),
    "mend": ("number", "number", "number", "weight"),
    "line": ("name", "name", "marks"),
    "unline": ("name",),
    "site": ("name", "name", "number"),
    "unsite": ("name",),
    "scale": ("name", "number", "number", "number", "number"),
    "unscale": ("name",),
    "route": ("name", "name", "name"),
    "unroute": ("name",),
    "note": ("name", "name", "number", "number", "number"),
}
ROOM = {"marks": 12, "readings": 24, "lines": 6, "sites": 8, "scales": 3, "routes": 3}
FEWEST_MARKS = 2
MOST_MARKS = 8
FIRST_RANK = 1
LAST_RANK = 9


class Ground:
    """All that a works has at a time. Deeds change it; a works hands them a twin, so that it can go back."""

    def __init__(self):
        self.own_marks = {}
        self.own_readings = {}
        self.own_lines = {}
        self.own_sites = {}
        self.own_scales = {}
        self.own_routes = {}
        self.last_number = 0

    def twin(self):
        """Another ground that has the same."""
        other = Ground()
        other.own_marks = dict(self.own_marks)
        other.own_readings = dict(self.own_readings)
        other.own_lines = dict(self.own_lines)
        other.own_sites = dict(self.own_sites)
        other.own_scales = dict(self.own_scales)
        other.own_routes = dict(self.own_routes)
        other.last_number = self.last_number
        return other

    def survey(self):
        """The survey of its marks and readings."""
        return Survey(self.own_marks, self.own_readings)

    def stand(self):
        """All that is drawn of it."""
        return Stand(self.survey(), self.own_lines, self.own_sites, self.own_scales, self.own_routes)

    def __eq__(self, other):
        return (isinstance(other, Ground) and self.own_marks == other.own_marks
                and self.own_readings == other.own_readings and self.own_lines == other.own_lines
                and self.own_sites == other.own_sites and self.own_scales == other.own_scales
                and self.own_routes == other.own_routes)


def check_ground(ground):
    """Refuse a ground of which a mark would be drawn too far off at a scale."""
    land = Land(adjusted(ground.survey()), ground.own_lines, ground.own_sites)
    check_reach(land, ground.own_scales)


def check_new(name, things):
    """Refuse what is no name, or the name of one of these things."""
    check_name(name)
    if name in things:
        raise Taken(name)


def check_room(things, what):
    """Refuse one more of these things where there is room for no more."""
    if len(things) >= ROOM[what]:
        raise Full(what)


def check_marks(ground, names):
    """Refuse the first name that is no mark's."""
    for name in names:
        if name not in ground.own_marks:
            raise NoMark(name)


def check_row(marks):
    """Refuse marks that make no line."""
    if not FEWEST_MARKS <= len(marks) <= MOST_MARKS:
        raise BadRow(marks)
    if any([marks[at - 1] == marks[at] for at in range(1, len(marks))]):
        raise BadRow(marks)


def add_mark(ground, things):
    """A new mark, fixed or free."""
    name, at = things
    check_new(name, ground.own_marks)
    check_place(at)
    check_room(ground.own_marks, "marks")
    ground.own_marks[name] = at


def fix_mark(ground, things):
    """A mark fixed at another place, or free."""
    name, at = things
    check_marks(ground, [name])
    check_place(at)
    ground.own_marks[name] = at


def add_reading(ground, things):
    """A new reading; its number is told."""
    number = ground.last_number + 1
    check_reading(ground.own_marks, number, things)
    check_room(ground.own_readings, "readings")
    ground.own_readings[number] = things
    ground.last_number = number
    return number


def strike_reading(ground, things):
    """A reading gone; its number is not given again."""
    number = things[0]
    reading_at(ground.survey(), number)
    del ground.own_readings[number]


def mend_reading(ground, things):
    """Other numbers for a reading."""
    number, across, up, weight = things
    old = reading_at(ground.survey(), number)
    reading = (old[0], old[1], across, up, old[4] if weight is None else weight)
    check_reading(ground.own_marks, number, reading)
    ground.own_readings[number] = reading


def add_line(ground, things):
    """A new line."""
    name, kind, marks = things
    check_new(name, ground.own_lines)
    if kind not in KINDS:
        raise BadKind(kind)
    check_row(marks)
    check_marks(ground, marks)
    check_room(ground.own_lines, "lines")
    ground.own_lines[name] = (kind, tuple(marks))


def drop_line(ground, things):
    """A line gone."""
    name = things[0]
    if name not in ground.own_lines:
        raise NoLine(name)
    del ground.own_lines[name]


def add_site(ground, things):
    """A new site."""
    name, mark, rank = things
    check_new(name, ground.own_sites)
    check_marks(ground, [mark])
    check_number(rank, FIRST_RANK, LAST_RANK)
    check_room(ground.own_sites, "sites")
    ground.own_sites[name] = (mark, rank)


def drop_site(ground, things):
    """A site gone."""
    name = things[0]
    if name not in ground.own_sites:
        raise NoSite(name)
    del ground.own_sites[name]


def add_scale(ground, things):
    """A new scale."""
    name, step, tolerance, letter, side = things
    check_new(name, ground.own_scales)
    scale = Scale(step, tolerance=tolerance, letter=letter, side=side)
    check_room(ground.own_scales, "scales")
    ground.own_scales[name] = scale


def drop_scale(ground, things):
    """A scale gone."""
    name = things[0]
    if name not in ground.own_scales:
        raise NoScale(name)
    del ground.own_scales[name]


def add_route(ground, things):
    """A new route."""
    name, start, goal = things
    check_new(name, ground.own_routes)
    check_marks(ground, [start, goal])
    check_room(ground.own_routes, "routes")
    ground.own_routes[name] = (start, goal)


def drop_route(ground, things):
    """A route gone."""
    name = things[0]
    if name not in ground.own_routes:
        raise NoRoute(name)
    del ground.own_routes[name]


def first_fixed(ground):
    """The first fixed mark by name."""
    fixed = [name for name in sorted(ground.own_marks) if ground.own_marks[name] is not None]
    if not fixed:
        raise NothingFixed("no mark is fixed")
    return fixed[0]


def note_site(ground, things):
    """A new reading, by what a reader saw; its number is told."""
    scale, site, i, j, weight = things
    if scale not in ground.own_scales:
        raise NoScale(scale)
    if site not in ground.own_sites:
        raise NoSite(site)
    start = first_fixed(ground)
    x, y = ground.own_marks[start]
    step = ground.own_scales[scale].step
    return add_reading(ground, (start, ground.own_sites[site][0], step * i - x, step * j - y, weight))


ACTIONS = {
    "mark": add_mark, "fix": fix_mark, "read": add_reading, "strike": strike_reading, "mend": mend_reading,
    "line": add_line, "unline": drop_line, "site": add_site, "unsite": drop_site, "scale": add_scale,
    "unscale": drop_scale, "route": add_route, "unroute": drop_route, "note": note_site,
}


def check_deed(deed):
    """Refuse a tuple of another word or length than a deed's."""
    word = deed[0] if deed else ""
    if word not in SHAPES or len(deed) != len(SHAPES[word]) + 1:
        raise BadDeed(word)


def carry_out(ground, deed):
    """Do a deed on the ground; what it tells is told."""
    action = ACTIONS[deed[0]]
    return action(ground, deed[1:])


def settled(deed):
    """A deed as it is kept: a line's marks as a tuple."""
    if deed[0] == "line":
        word, name, kind, marks = deed
        return (word, name, kind, tuple(marks))
    return deed
