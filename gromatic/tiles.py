"""Tiles: the squares that a sheet is cut into."""

from gromatic.distance import narrowed
from gromatic.ratios import NOUGHT, ONE, between, spot_of


def tile_box(key, side):
    """The box of a tile, in steps."""
    a, b = key
    return (a * side, b * side, (a + 1) * side, (b + 1) * side)


def cut(one, other, box):
    """The part of the straight piece between two pairs that lies in a box: a pair of spots, or None."""
    left, low, right, top = box
    start, end = spot_of(one), spot_of(other)
    span = narrowed((NOUGHT, ONE), start[0], end[0], (left, 1), (right, 1))
    span = narrowed(span, start[1], end[1], (low, 1), (top, 1))
    if span is None:
        return None
    return (between(start, end, span[0]), between(start, end, span[1]))
