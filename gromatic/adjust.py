"""Adjusting: the one placing of the marks that has the least cost."""

from gromatic.ratios import NOUGHT, minus, plus, ratio, spot_of, times
from gromatic.survey import Survey, reading_at


def hanging(survey):
    """The names of the marks that hang, rising."""
    loose = survey.loose()
    return [name for name in survey.names() if name not in loose]


def add_end(rows, places, marks, ends, way, weight):
    """Put one reading into the balance of the mark at its first end, seen from the second one by way."""
    end, begin = ends
    if end not in places:
        return
    row = rows[places[end]]
    row[places[end]] += weight
    start = (0, 0)
    if begin in places:
        row[places[begin]] -= weight
    else:
        start = marks[begin]
    row[-2] += weight * (start[0] + way[0])
    row[-1] += weight * (start[1] + way[1])


def balances(free, marks, readings):
    """For each free mark a row: the factors of all of them in its balance, then the right sides of x and of y."""
    places = {name: at for at, name in enumerate(free)}
    rows = [[0] * (len(free) + 2) for name in free]
    for one, other, across, up, weight in readings.values():
        add_end(rows, places, marks, (other, one), (across, up), weight)
        add_end(rows, places, marks, (one, other), (-across, -up), weight)
    return rows


def cleared(row, upper, at, before):
    """The row with nought at its place at, by the upper row; before is the factor that all have in common."""
    return [(upper[at] * row[k] - row[at] * upper[k]) // before for k in range(len(row))]


def eliminate(rows):
    """Make the rows a triangle, in whole numbers.

    Each division comes out even (Bareiss). No row has nought at its own place when its turn comes,
    as each of the marks hangs together with a fixed one.
    """
    before = 1
    many = len(rows)
    for at in range(many):
        for below in range(at + 1, many):
            rows[below] = cleared(rows[below], rows[at], at, before)
        before = rows[at][at]


def solved(rows, column):
    """The ratios that satisfy a triangle of rows, with the right sides of a column."""
    if not rows:
        return []
    many = len(rows)
    under = rows[-1][many - 1]
    # By Cramer's rule each ratio times under is a whole number.
    overs = [0] * many
    for at in range(many - 1, -1, -1):
        row = rows[at]
        known = sum([row[k] * overs[k] for k in range(at + 1, many)])
        overs[at] = (under * row[column] - known) // row[at]
    return [ratio(over, under) for over in overs]


def placed(free, marks, readings):
    """The spots of least cost of the free marks of one piece that hangs."""
    rows = balances(free, marks, readings)
    eliminate(rows)
    across = solved(rows, -2)
    up = solved(rows, -1)
    return {name: (across[at], up[at]) for at, name in enumerate(free)}


def adjusted(survey):
    """The placing of least cost of the marks that hang."""
    marks = survey.marks()
    readings = survey.readings()
    names = hanging(survey)
    placing = {name: spot_of(marks[name]) for name in names if marks[name] is not None}
    # Each piece has equations of its own: together their numbers would only be greater.
    for piece in survey.pieces():
        free = [name for name in piece if name in names and marks[name] is None]
        placing.update(placed(free, marks, readings))
    return {name: placing[name] for name in names}


def rests(survey, placing):
    """For each reading of which both marks are placed the pair of its rests."""
    readings = survey.readings()
    told = {}
    for number in readings:
        one, other, across, up, weight = readings[number]
        if one in placing and other in placing:
            start, end = placing[one], placing[other]
            told[number] = (minus(minus(end[0], start[0]), (across, 1)), minus(minus(end[1], start[1]), (up, 1)))
    return told


def cost(survey, placing):
    """The sum of weight times both rests' squares."""
    readings = survey.readings()
    left = rests(survey, placing)
    total = NOUGHT
    for number in left:
        x, y = left[number]
        squares = plus(times(x, x), times(y, y))
        total = plus(total, times((readings[number][4], 1), squares))
    return total


def grown(pair, rest, weight):
    """A pair of sums with weight times a pair of rests put to it."""
    return (plus(pair[0], times((weight, 1), rest[0])), plus(pair[1], times((weight, 1), rest[1])))


def strains(survey, placing):
    """For each placed mark the pair of what the rests of its readings add up to."""
    readings = survey.readings()
    left = rests(survey, placing)
    sums = {name: (NOUGHT, NOUGHT) for name in placing}
    for number in left:
        one, other = readings[number][:2]
        weight = readings[number][4]
        sums[other] = grown(sums[other], left[number], weight)
        sums[one] = grown(sums[one], left[number], -weight)
    return sums


def balanced(survey, placing):
    """Whether a placing places just the marks that hang, as fixed, and the free ones in balance."""
    if sorted(placing) != hanging(survey):
        return False
    marks = survey.marks()
    sums = strains(survey, placing)
    for name in placing:
        if marks[name] is None:
            if sums[name] != (NOUGHT, NOUGHT):
                return False
        elif placing[name] != spot_of(marks[name]):
            return False
    return True


def pull(survey, number):
    """By how much the adjusted x of each mark that hangs grows where across of a reading grows by 1."""
    reading_at(survey, number)
    marks = survey.marks()
    readings = survey.readings()
    # The adjusted places are linear in the readings: all but the one growth is put to nought.
    still = {name: None if marks[name] is None else (0, 0) for name in marks}
    growths = {}
    for k in readings:
        one, other, across, up, weight = readings[k]
        growths[k] = (one, other, 1 if k == number else 0, 0, weight)
    placing = adjusted(Survey(still, growths))
    return {name: placing[name][0] for name in placing}
