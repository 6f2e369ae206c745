"""Ways: the shortest ones along the roads of a land."""

from gromatic.errors import Loose, NoMark, NoWay
from gromatic.ratios import NOUGHT, minus, order, plus, size, stretch

ROAD = "road"


def roads(land):
    """The known roads by rising names: a list of tuples (name, marks)."""
    lines = land.lines()
    return [(name, lines[name][1]) for name in land.known() if lines[name][0] == ROAD]


def join_of(one, other):
    """The pair of two marks, the lesser name first."""
    return (one, other) if one < other else (other, one)


def joins(land):
    """The dict from pairs of joined marks to the lengths between both."""
    spots = land.spots()
    told = {}
    for name, marks in roads(land):
        for at in range(1, len(marks)):
            one, other = marks[at - 1], marks[at]
            told[join_of(one, other)] = stretch(spots[one], spots[other])
    return {pair: told[pair] for pair in sorted(told)}


def near_by(lengths):
    """For each joined mark the dict from the marks it is joined with to the lengths there."""
    near = {mark: {} for pair in lengths for mark in pair}
    for one, other in lengths:
        near[one][other] = lengths[(one, other)]
        near[other][one] = lengths[(one, other)]
    return near


def is_shorter(one, other):
    """Whether one pair (length, steps) is less than the other, by length, then by steps."""
    turn = order(one[0], other[0])
    return turn < 0 or (turn == 0 and one[1] < other[1])


def shortest_from(near, start):
    """For each mark that can be come to from start the pair (length, steps) of a shortest way, of fewest steps."""
    told = {start: (NOUGHT, 0)}
    waiting = [start]
    while waiting:
        here = waiting.pop(0)
        length, steps = told[here]
        onward = near.get(here, {})
        for mark in onward:
            found = (plus(length, onward[mark]), steps + 1)
            if mark not in told or is_shorter(found, told[mark]):
                told[mark] = found
                waiting.append(mark)
    return told


def check_spot(land, name):
    """Refuse a name that is no mark's, or that of a mark without a spot."""
    if name in land.spots():
        return
    lined = [mark for kind, marks in land.lines().values() for mark in marks]
    sited = [mark for mark, rank in land.sites().values()]
    if name not in lined + sited:
        raise NoMark(name)
    raise Loose(name)


def next_mark(near, left, here):
    """The first mark by name behind here on a shortest way of fewest marks; left tells what is left from each."""
    length, steps = left[here]
    onward = near[here]
    return min([mark for mark in onward
                if left[mark][1] == steps - 1 and plus(left[mark][0], onward[mark]) == length])


def way(land, start, goal):
    """A tuple (length, marks, prices) of the shortest way from start to goal."""
    for name in (start, goal):
        check_spot(land, name)
    near = near_by(joins(land))
    come = shortest_from(near, start)
    if goal not in come:
        raise NoWay(sorted(come))
    left = shortest_from(near, goal)
    marks = [start]
    while marks[-1] != goal:
        marks.append(next_mark(near, left, marks[-1]))
    return (come[goal][0], marks, {name: come[name][0] for name in sorted(come)})


def way_or_none(land, start, goal):
    """The way from start to goal, None where it would be refused."""
    try:
        return way(land, start, goal)
    except (NoMark, Loose, NoWay):
        return None


def length_along(land, lengths, marks):
    """The length of a list of marks, or None where it is no way."""
    if not marks or (len(marks) == 1 and marks[0] not in land.spots()):
        return None
    total = NOUGHT
    for at in range(1, len(marks)):
        pair = join_of(marks[at - 1], marks[at])
        if pair not in lengths:
            return None
        total = plus(total, lengths[pair])
    return total


def prices_fit(prices, one, other, length):
    """Whether both marks of a join have prices that differ by no more than its length, or neither has one."""
    if one in prices and other in prices:
        return order(size(minus(prices[one], prices[other])), length) <= 0
    return one not in prices and other not in prices


def way_holds(land, start, goal, told):
    """Whether a tuple (length, marks, prices) shows a shortest way from start to goal."""
    if len(told) != 3:
        return False
    length, marks, prices = told
    lengths = joins(land)
    if length_along(land, lengths, marks) != length:
        return False
    if marks[0] != start or marks[-1] != goal:
        return False
    if prices.get(start) != NOUGHT or prices.get(goal) != length:
        return False
    return all([prices_fit(prices, one, other, lengths[(one, other)]) for one, other in lengths])
