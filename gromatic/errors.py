"""All that the map works refuses with, each kind of refusal as a class of its own."""


def copied(given):
    """A list as a copy; anything else cannot be changed by its owner and is kept as it is."""
    if isinstance(given, list):
        return list(given)
    return given


class GroundError(ValueError):
    """What was handed in is no good."""


class BadName(GroundError):
    """A new thing was given a name that is none."""

    def __init__(self, name):
        super().__init__(f"no name: {name!r}")
        self.name = name


class BadNumber(GroundError):
    """A number is beyond its bounds, or none."""

    def __init__(self, number):
        super().__init__(f"no such number is let: {number!r}")
        self.number = number


class BadReading(GroundError):
    """A reading that cannot be, or not in this place."""

    def __init__(self, number):
        super().__init__(f"reading {number!r} is no good here")
        self.number = number


class BadKind(GroundError):
    """A line of a kind that there is not."""

    def __init__(self, kind):
        super().__init__(f"no kind of line: {kind!r}")
        self.kind = kind


class BadRow(GroundError):
    """Marks that make no line."""

    def __init__(self, given):
        super().__init__(f"these marks make no line: {given!r}")
        self.given = copied(given)


class BadScale(GroundError):
    """A part of a scale is beyond its bounds."""

    def __init__(self, part):
        super().__init__(f"no scale has such a {part}")
        self.part = part


class BadDeed(GroundError):
    """A tuple that is no deed."""

    def __init__(self, word):
        super().__init__(f"no deed: {word!r}")
        self.word = word


class BadText(GroundError):
    """A text that cannot be read."""

    def __init__(self, at):
        super().__init__(f"line {at!r} cannot be read")
        self.at = at


class Taken(GroundError):
    """A new thing was given the name of another one."""

    def __init__(self, name):
        super().__init__(f"the name is taken: {name!r}")
        self.name = name


class Full(GroundError):
    """There is room for no more."""

    def __init__(self, what):
        super().__init__(f"no room for more {what}")
        self.what = what


class TooFar(GroundError):
    """A mark would be drawn beyond the reach of a sheet."""

    def __init__(self, name, grid):
        super().__init__(f"mark {name!r} is drawn too far off at scale {grid!r}")
        self.name = name
        self.grid = grid


class NothingFixed(GroundError):
    """A fixed mark is needed, and there is none."""


class AbsentError(LookupError):
    """What was asked for is not there."""


class NoMark(AbsentError):
    """There is no such mark."""

    def __init__(self, name):
        super().__init__(f"no mark: {name!r}")
        self.name = name


class NoReading(AbsentError):
    """There is no reading of that number."""

    def __init__(self, number):
        super().__init__(f"no reading: {number!r}")
        self.number = number


class NoLine(AbsentError):
    """There is no such line."""

    def __init__(self, name):
        super().__init__(f"no line: {name!r}")
        self.name = name


class NoSite(AbsentError):
    """There is no such site."""

    def __init__(self, name):
        super().__init__(f"no site: {name!r}")
        self.name = name


class NoScale(AbsentError):
    """There is no such scale."""

    def __init__(self, name):
        super().__init__(f"no scale: {name!r}")
        self.name = name


class NoRoute(AbsentError):
    """There is no such route."""

    def __init__(self, name):
        super().__init__(f"no route: {name!r}")
        self.name = name


class NoCorner(AbsentError):
    """A line has no corner of that number."""

    def __init__(self, number):
        super().__init__(f"no corner: {number!r}")
        self.number = number


class NoEdition(AbsentError):
    """No edition of that number was printed."""

    def __init__(self, number):
        super().__init__(f"no edition: {number!r}")
        self.number = number


class Loose(AbsentError):
    """A mark has no spot."""

    def __init__(self, name):
        super().__init__(f"mark {name!r} has no spot")
        self.name = name


class NoWay(AbsentError):
    """No way leads there; side has the marks that can be come to."""

    def __init__(self, side):
        super().__init__(f"no way leads on from {side!r}")
        self.side = copied(side)


class NothingLeft(IndexError):
    """Nothing is left to undo or to redo."""


class NoRatio(ZeroDivisionError):
    """Nothing is divided by nought."""
