"""Surveys: marks, fixed or free, and the readings between them."""

from gromatic.checks import check_name, check_number
from gromatic.errors import BadReading, NoMark, NoReading

MOST = 999
LEAST_WEIGHT = 1
MOST_WEIGHT = 9


def check_place(at):
    """Refuse a pair of numbers at which no mark is fixed; None, for a free mark, is let."""
    if at is not None:
        for number in at:
            check_number(number, -MOST, MOST)


def check_reading(marks, number, reading):
    """Refuse a reading that is no good among these marks."""
    one, other, across, up, weight = reading
    for name in (one, other):
        if name not in marks:
            raise NoMark(name)
    if one == other:
        raise BadReading(number)
    check_number(across, -MOST, MOST)
    check_number(up, -MOST, MOST)
    check_number(weight, LEAST_WEIGHT, MOST_WEIGHT)


def neighbours(marks, readings):
    """For each mark the list of those that one reading ties it to."""
    near = {name: [] for name in marks}
    for reading in readings.values():
        one, other = reading[:2]
        near[one].append(other)
        near[other].append(one)
    return near


def reached(near, start):
    """The marks that hang together with start, rising."""
    found = {start: True}
    waiting = [start]
    while waiting:
        here = waiting.pop()
        for name in near[here]:
            if name not in found:
                found[name] = True
                waiting.append(name)
    return sorted(found)


class Survey:
    """Marks and the readings between them; it never changes."""

    def __init__(self, marks, readings):
        for name in sorted(marks):
            check_name(name)
            check_place(marks[name])
        for number in sorted(readings):
            check_reading(marks, number, readings[number])
        self.own_marks = {name: marks[name] for name in sorted(marks)}
        self.own_readings = {number: readings[number] for number in sorted(readings)}

    def marks(self):
        """The dict from names to pairs of numbers, or None for free marks."""
        return dict(self.own_marks)

    def readings(self):
        """The dict from numbers to readings."""
        return dict(self.own_readings)

    def names(self):
        """The names of the marks, rising."""
        return sorted(self.own_marks)

    def hangs(self, name):
        """Whether a mark hangs together with a fixed one."""
        if name not in self.own_marks:
            raise NoMark(name)
        return name not in self.loose()

    def pieces(self):
        """The lists of marks that hang together, by their first names."""
        near = neighbours(self.own_marks, self.own_readings)
        found = {}
        told = []
        for name in self.names():
            if name not in found:
                piece = reached(near, name)
                told.append(piece)
                for mark in piece:
                    found[mark] = True
        return told

    def loose(self):
        """The marks that hang together with no fixed one, rising."""
        told = []
        for piece in self.pieces():
            if all([self.own_marks[name] is None for name in piece]):
                told.extend(piece)
        return sorted(told)

    def __eq__(self, other):
        return (isinstance(other, Survey) and self.own_marks == other.own_marks
                and self.own_readings == other.own_readings)

    def __len__(self):
        return len(self.own_readings)

    def __repr__(self):
        return f"Survey({len(self.own_marks)} marks, {len(self.own_readings)} readings)"


def reading_at(survey, number):
    """The reading of a survey that has this number."""
    readings = survey.readings()
    # True would find reading 1, and is no reading's number.
    if isinstance(number, bool) or number not in readings:
        raise NoReading(number)
    return readings[number]
