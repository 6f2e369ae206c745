"""Ratios: tuples (over, under) of whole numbers in lowest terms, under above nought; and spots, pairs of them."""

from gromatic.errors import NoRatio

NOUGHT = (0, 1)
ONE = (1, 1)


def greatest_common(one, other):
    """The greatest number that divides both, where not both are 0."""
    while other != 0:
        one, other = other, one % other
    return abs(one)


def ratio(over, under):
    """Two numbers as a ratio."""
    if under == 0:
        raise NoRatio("nothing is divided by nought")
    common = greatest_common(over, under)
    if under < 0:
        common = -common
    return (over // common, under // common)


def plus(one, other):
    """The sum of two ratios."""
    return ratio(one[0] * other[1] + other[0] * one[1], one[1] * other[1])


def minus(one, other):
    """The first ratio less the second one."""
    return ratio(one[0] * other[1] - other[0] * one[1], one[1] * other[1])


def times(one, other):
    """The product of two ratios."""
    return ratio(one[0] * other[0], one[1] * other[1])


def divided(one, other):
    """The first ratio divided by the second one."""
    return ratio(one[0] * other[1], one[1] * other[0])


def order(one, other):
    """-1, 0 or 1 as the first ratio is less, the same or greater."""
    gap = one[0] * other[1] - other[0] * one[1]
    if gap < 0:
        return -1
    if gap > 0:
        return 1
    return 0


def size(one):
    """A ratio without its minus."""
    return (abs(one[0]), one[1])


def floor(one):
    """The greatest number that is not above a ratio."""
    return one[0] // one[1]


def nearest(one):
    """The nearest number to a ratio, the greater one where it is just between two."""
    return floor(plus(one, (1, 2)))


def lesser(one, other):
    """The lesser one of two ratios."""
    return one if order(one, other) < 0 else other


def greater(one, other):
    """The greater one of two ratios."""
    return one if order(one, other) > 0 else other


def spot_of(pair):
    """The spot at a pair of numbers."""
    return (ratio(pair[0], 1), ratio(pair[1], 1))


def stretch(start, end):
    """The sum of the sizes of the differences of x and of y of two spots."""
    return plus(size(minus(end[0], start[0])), size(minus(end[1], start[1])))


def between(start, end, share):
    """The spot that is a share of the way from start to end."""
    return (plus(start[0], times(share, minus(end[0], start[0]))),
            plus(start[1], times(share, minus(end[1], start[1]))))
