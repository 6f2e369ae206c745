"""Tiles: the squares that a sheet is cut into."""

from gromatic.distance import narrowed
from gromatic.ratios import NOUGHT, ONE, between, greater, lesser, spot_of


def tile_box(key, side):
    """The box of a tile, in steps."""
    a, b = key
    return (a * side, b * side, (a + 1) * side, (b + 1) * side)


def cut(one, other, box):
    """The part of the straight piece between two pairs that lies in a box: a pair of spots, or None."""
    left, low, right, top = box
    start, end = spot_of(one), spot_of(other)
    span = narrowed((NOUGHT, ONE), start[0], end[0], (left, 1), (right, 1))
    span = narrowed(span, start[1], end[1], (low, 1), (top, 1))
    if span is None:
        return None
    return (between(start, end, span[0]), between(start, end, span[1]))


def places_along(one, other, side):
    """The numbers of the tiles that have, along one way, a number from one ratio to the other, rims too."""
    low, high = lesser(one, other), greater(one, other)
    # A number on a rim lies in the tiles on both sides of it: the lower bound is rounded up, then one is taken.
    return list(range(-(-low[0] // (low[1] * side)) - 1, high[0] // (high[1] * side) + 1))


def keys_along(start, end, side):
    """The keys of the tiles that have a point of the straight piece between two spots, rims too."""
    told = []
    for a in places_along(start[0], end[0], side):
        span = narrowed((NOUGHT, ONE), start[0], end[0], (a * side, 1), ((a + 1) * side, 1))
        one, other = between(start, end, span[0]), between(start, end, span[1])
        told.extend([(a, b) for b in places_along(one[1], other[1], side)])
    return told


def keys_within(box, side):
    """The keys of the tiles that have more than rims in common with a box."""
    left, low, right, top = box
    return [(a, b) for a in range(left // side, (right - 1) // side + 1)
            for b in range(low // side, (top - 1) // side + 1)]
