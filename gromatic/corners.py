"""Corners: which spots of a row are kept, and which may be left out."""

from gromatic.ratios import NOUGHT, divided, greater, lesser, minus, order, plus, size, times


def longer_way(start, end):
    """The place in a spot of the number that is the longer way's: 0 for x, also where both are as long, 1 for y."""
    across = size(minus(end[0], start[0]))
    up = size(minus(end[1], start[1]))
    return 1 if order(across, up) < 0 else 0


def share_of(start, end, spot):
    """The share of the way from start to end that a spot has come by the longer way; nought where both are one."""
    if start == end:
        return NOUGHT
    way = longer_way(start, end)
    return divided(minus(spot[way], start[way]), minus(end[way], start[way]))


def slope_of(start, end, way):
    """By how much the other number grows, from start to end, where the one of this way grows by 1."""
    if start == end:
        return NOUGHT
    return divided(minus(end[1 - way], start[1 - way]), minus(end[way], start[way]))


def aside(start, slope, way, spot):
    """How far a spot lies from the line that leads on from start, by the number that is not the longer way's."""
    at = plus(start[1 - way], times(slope, minus(spot[way], start[way])))
    return size(minus(spot[1 - way], at))


def off_line(start, end, spot):
    """How far a spot lies from the line between two others, by the number that is not the longer way's."""
    way = longer_way(start, end)
    return aside(start, slope_of(start, end, way), way, spot)


def may_pass(row, first, last, tolerance):
    """Whether each spot between first and last is passed by the piece between both."""
    start, end = row[first], row[last]
    way = longer_way(start, end)
    low, high = lesser(start[way], end[way]), greater(start[way], end[way])
    slope = slope_of(start, end, way)
    for spot in row[first + 1:last]:
        if order(spot[way], low) < 0 or order(spot[way], high) > 0:
            return False
        if order(aside(start, slope, way, spot), (tolerance, 1)) > 0:
            return False
    return True


def ends_from(row, first, tolerance, held):
    """Where the pieces from first lead, rising, that may pass and pass no held spot."""
    told = []
    for last in range(first + 1, len(row)):
        if may_pass(row, first, last, tolerance):
            told.append(last)
        if last in held:
            break
    return told


def ends_of(row, tolerance, held):
    """For each spot of a row what ends_from tells of it."""
    return [ends_from(row, first, tolerance, held) for first in range(len(row))]


def counts_of(ends):
    """For each spot the least number of pieces from it to the last one, where ends tells the pieces."""
    counts = [0] * len(ends)
    # The last spot has no end to lead to and stays at 0.
    for first in range(len(ends) - 2, -1, -1):
        counts[first] = 1 + min([counts[last] for last in ends[first]])
    return counts


def pieces_left(row, tolerance, *, held=()):
    """For each spot how many pieces lead, at the least, from it to the last one, none passing a held one."""
    return counts_of(ends_of(row, tolerance, held))


def kept(row, tolerance, *, held=()):
    """The numbers of the spots that are kept: of the shortest lists the one with the lesser numbers first."""
    ends = ends_of(row, tolerance, held)
    counts = counts_of(ends)
    told = [0]
    while told[-1] < len(row) - 1:
        here = told[-1]
        told.append(min([last for last in ends[here] if counts[last] == counts[here] - 1]))
    return told


def leads_through(row, told):
    """Whether a list of numbers rises from the first spot of a row to the last one."""
    if not told or told[0] != 0 or told[-1] != len(row) - 1:
        return False
    return all([told[at - 1] < told[at] for at in range(1, len(told))])


def falls(ends, numbers, first, last):
    """Whether a piece that is let leads from first to last, and the numbers fall by just 1 along it."""
    return last in ends[first] and numbers[first] - numbers[last] == 1


def kept_holds(row, tolerance, told, numbers, *, held=()):
    """Whether two lists show what kept and pieces_left do: a list as short as any, and numbers that prove it."""
    if len(numbers) != len(row) or numbers[-1] != 0 or not leads_through(row, told):
        return False
    ends = ends_of(row, tolerance, held)
    for first in range(len(row)):
        if any([numbers[first] - numbers[last] > 1 for last in ends[first]]):
            return False
    return all([falls(ends, numbers, told[at - 1], told[at]) for at in range(1, len(told))])
