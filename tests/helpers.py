"""What several test files share."""

from fractions import Fraction

from gromatic.land import KINDS, Land


def refuse(case, error, fields, call, *args, **more):
    """The call is refused with just this class and just these fields (True is not 1)."""
    with case.assertRaises(error) as caught:
        call(*args, **more)
    told = caught.exception
    case.assertIs(type(told), error)
    for name, value in fields.items():
        case.assertEqual(getattr(told, name), value)
        case.assertIs(type(getattr(told, name)), type(value))


def fraction(one):
    """A ratio as a Fraction; it must be in lowest terms."""
    over, under = one
    told = Fraction(over, under)
    if (told.numerator, told.denominator) != (over, under) or type(one) is not tuple:
        raise AssertionError(f"not in lowest terms: {one}")
    return told


def as_ratio(told):
    """A Fraction or a number as a ratio."""
    told = Fraction(told)
    return (told.numerator, told.denominator)


def spot(x, y):
    """Two Fractions or numbers as a spot."""
    return (as_ratio(x), as_ratio(y))


def filled(things, keys):
    """The dict with its keys put in in this order."""
    return {key: things[key] for key in keys}


def is_in(point, box):
    """Whether a point lies in a box, rims too."""
    return box[0] <= point[0] <= box[2] and box[1] <= point[1] <= box[3]


def cut_anew(one, other, box):
    """The first and the last point in a box of those where a piece ends or meets a line of the rim; None else."""
    way = (other[0] - one[0], other[1] - one[1])
    shares = [Fraction(0), Fraction(1)]
    for at, line in ((0, box[0]), (1, box[1]), (0, box[2]), (1, box[3])):
        if way[at] != 0:
            shares.append(Fraction(line - one[at]) / way[at])
    points = [(share, (one[0] + share * way[0], one[1] + share * way[1])) for share in shares if 0 <= share <= 1]
    points = [point for share, point in sorted(points) if is_in(point, box)]
    return (spot(*points[0]), spot(*points[-1])) if points else None


def chance_lines(chance, names):
    """Lines that share marks, or lines that share none, of which more corners may be left out."""
    lines = {}
    apart = chance.randrange(2)
    rest = chance.sample(names, len(names))
    for name in chance.sample(("lane", "moor", "way", "dike", "edge", "a"), chance.randint(0, 6)):
        marks = [rest.pop() for at in range(min(len(rest), chance.randint(4, 8)))] if apart else [chance.choice(names)]
        while not apart and len(marks) < chance.randint(2, 8):
            marks.append(chance.choice([mark for mark in names if mark != marks[-1]]))
        if len(marks) > 1:
            lines[name] = (chance.choice(("road", "road", *KINDS)), tuple(marks))
    return lines


def chance_land(chance, most=60):
    """A spot for most of the marks, known and unknown lines, sites on marks with spots and without."""
    names = "abcdefghijkl"
    spots = {name: spot(Fraction(chance.randint(-most, most), chance.randint(1, 3)),
                        Fraction(chance.randint(-most, most), chance.randint(1, 3)))
             for name in names if chance.randrange(16)}
    sites = {name: (chance.choice(names), chance.randint(1, 9))
             for name in chance.sample(("inn", "mill", "a", "church", "well", "ford"), chance.randint(0, 6))}
    return Land(spots, chance_lines(chance, names), sites)
