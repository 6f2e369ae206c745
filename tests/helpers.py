"""What several test files share."""

from fractions import Fraction

from gromatic.errors import AbsentError, GroundError
from gromatic.land import KINDS, Land
from gromatic.works import Works


def refuse(case, error, fields, call, *args, **more):
    """The call is refused with just this class and just these fields (True is not 1)."""
    with case.assertRaises(error) as caught:
        call(*args, **more)
    told = caught.exception
    case.assertIs(type(told), error)
    for name, value in fields.items():
        case.assertEqual(getattr(told, name), value)
        case.assertIs(type(getattr(told, name)), type(value))


def fraction(one):
    """A ratio as a Fraction; it must be in lowest terms."""
    over, under = one
    told = Fraction(over, under)
    if (told.numerator, told.denominator) != (over, under) or type(one) is not tuple:
        raise AssertionError(f"not in lowest terms: {one}")
    return told


def as_ratio(told):
    """A Fraction or a number as a ratio."""
    told = Fraction(told)
    return (told.numerator, told.denominator)


def spot(x, y):
    """Two Fractions or numbers as a spot."""
    return (as_ratio(x), as_ratio(y))


def filled(things, keys):
    """The dict with its keys put in in this order."""
    return {key: things[key] for key in keys}


def is_in(point, box):
    """Whether a point lies in a box, rims too."""
    return box[0] <= point[0] <= box[2] and box[1] <= point[1] <= box[3]


def cut_anew(one, other, box):
    """The first and the last point in a box of those where a piece ends or meets a line of the rim; None else."""
    way = (other[0] - one[0], other[1] - one[1])
    shares = [Fraction(0), Fraction(1)]
    for at, line in ((0, box[0]), (1, box[1]), (0, box[2]), (1, box[3])):
        if way[at] != 0:
            shares.append(Fraction(line - one[at]) / way[at])
    points = [(share, (one[0] + share * way[0], one[1] + share * way[1])) for share in shares if 0 <= share <= 1]
    points = [point for share, point in sorted(points) if is_in(point, box)]
    return (spot(*points[0]), spot(*points[-1])) if points else None


def chance_lines(chance, names):
    """Lines that share marks, or lines that share none, of which more corners may be left out."""
    lines = {}
    apart = chance.randrange(2)
    rest = chance.sample(names, len(names))
    for name in chance.sample(("lane", "moor", "way", "dike", "edge", "a"), chance.randint(0, 6)):
        marks = [rest.pop() for at in range(min(len(rest), chance.randint(4, 8)))] if apart else [chance.choice(names)]
        while not apart and len(marks) < chance.randint(2, 8):
            marks.append(chance.choice([mark for mark in names if mark != marks[-1]]))
        if len(marks) > 1:
            lines[name] = (chance.choice(("road", "road", *KINDS)), tuple(marks))
    return lines


def chance_land(chance, most=60):
    """A spot for most of the marks, known and unknown lines, sites on marks with spots and without."""
    names = "abcdefghijkl"
    spots = {name: spot(Fraction(chance.randint(-most, most), chance.randint(1, 3)),
                        Fraction(chance.randint(-most, most), chance.randint(1, 3)))
             for name in names if chance.randrange(16)}
    sites = {name: (chance.choice(names), chance.randint(1, 9))
             for name in chance.sample(("inn", "mill", "a", "church", "well", "ford"), chance.randint(0, 6))}
    return Land(spots, chance_lines(chance, names), sites)


def chance_deed(chance, works):
    """A deed tuple of chance: most are good in this works, some are not."""
    marks = works.survey().names() or ["a"]
    readings = sorted(works.survey().readings()) or [1]

    def mark():
        return chance.choice(marks) if chance.randrange(12) else chance.choice("abcdefghijklmn")

    def place():
        return (chance.randint(-99, 99), chance.randint(-99, 99)) if chance.randrange(2) else None

    def of(names, rest):
        return chance.choice(sorted(names)) if names and chance.randrange(12) else rest

    word = chance.choice(("mark", "mark", "mark", "fix", "read", "read", "read", "read", "strike", "mend", "mend", "line",
                          "line", "unline", "site", "site", "unsite", "scale", "unscale", "route", "unroute", "note"))
    across, up, weight = chance.randint(-60, 60), chance.randint(-60, 60), chance.randint(1, 9)
    things = {
        "mark": lambda: (chance.choice("abcdefghijklmn"), place()),
        "fix": lambda: (mark(), place()),
        "read": lambda: (mark(), mark(), across, up, weight),
        "strike": lambda: (chance.choice(readings),),
        "mend": lambda: (chance.choice(readings), across, up, chance.choice((None, weight))),
        "line": lambda: (chance.choice(("lane", "moor", "way", "dike", "edge", "rim", "side")),
                         chance.choice(("road", "road", *KINDS)),
                         chance.choice((list, tuple))(mark() for at in range(chance.randint(2, 8)))),
        "unline": lambda: (of(works.lines(), "lane"),),
        "site": lambda: (chance.choice(("inn", "mill", "church", "well", "ford", "a")), mark(), weight),
        "unsite": lambda: (of(works.sites(), "inn"),),
        "scale": lambda: (chance.choice(("wide", "near", "far", "odd")), chance.randint(2, 12),
                          chance.choice((0, 5, 30)), chance.randint(1, 9), chance.choice((8, 16, 64))),
        "unscale": lambda: (of(works.scales(), "wide"),),
        "route": lambda: (chance.choice(("whole", "back", "trip", "tour")), mark(), mark()),
        "unroute": lambda: (of(works.routes(), "whole"),),
        "note": lambda: (of(works.scales(), "wide"), of(works.sites(), "inn"), chance.randint(-9, 9),
                         chance.randint(-9, 9), weight),
    }
    return (word, *things[word]())


def try_deeds(works, deeds, *, as_run):
    """Whether the deeds were done, one by one (all but the last are done then) or as a run."""
    try:
        if as_run:
            works.run(deeds)
        else:
            for deed in deeds:
                works.do(deed)
    except (GroundError, AbsentError):
        return False
    return True


START = (
    ("mark", "a", (0, 0)), ("mark", "b", None), ("mark", "c", None), ("mark", "d", (60, -40)), ("mark", "e", None),
    ("read", "a", "b", 20, 10, 1), ("read", "b", "c", 20, 0, 2), ("read", "c", "d", 19, -50, 1),
    ("read", "b", "d", 39, -49, 3), ("scale", "wide", 7, 5, 1, 8), ("line", "lane", "road", ("a", "b", "c", "d")),
    ("site", "inn", "b", 5), ("site", "church", "c", 1), ("route", "whole", "a", "d"),
)


def chance_works(chance, turns):
    """A works in which deeds of chance were done behind those of START, some as runs, some taken back."""
    works = Works()
    for deed in START:
        works.do(deed)
    for turn in range(turns):
        if chance.randrange(12) == 0 and works.done():
            works.undo()
        else:
            deeds = [chance_deed(chance, works) for at in range(chance.choice((1, 1, 1, 2)))]
            try_deeds(works, deeds, as_run=chance.randrange(2))
    return works
