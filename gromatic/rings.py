"""Rings: the readings that close a chain of others."""

from gromatic.errors import BadReading
from gromatic.survey import reading_at


def forest(survey):
    """The numbers, rising, of the readings that tie marks which lesser numbers do not yet tie."""
    readings = survey.readings()
    heads = {name: name for name in survey.names()}
    told = []
    for number in sorted(readings):
        one, other = readings[number][:2]
        kept, lost = heads[one], heads[other]
        if kept != lost:
            told.append(number)
            heads = {name: kept if heads[name] == lost else heads[name] for name in heads}
    return told


def steps_of(survey, numbers):
    """For each mark the steps (mark, number, sign) that lead on from it by these readings."""
    readings = survey.readings()
    steps = {name: [] for name in survey.names()}
    for number in numbers:
        one, other = readings[number][:2]
        steps[one].append((other, number, 1))
        steps[other].append((one, number, -1))
    return steps


def chain(steps, start, goal):
    """The pairs (number, sign) that lead from start to goal; in a forest there is just one such chain."""
    chains = {start: []}
    waiting = [start]
    while waiting:
        here = waiting.pop()
        for mark, number, sign in steps[here]:
            if mark not in chains:
                chains[mark] = chains[here] + [(number, sign)]
                waiting.append(mark)
    return chains[goal]


def ring(survey, number):
    """The ring that a reading closes which is not in the forest."""
    reading = reading_at(survey, number)
    trees = forest(survey)
    if number in trees:
        raise BadReading(number)
    return [(number, 1)] + chain(steps_of(survey, trees), reading[1], reading[0])


def closing(survey, row):
    """The pair of the sums of sign times across and of sign times up."""
    total_across = 0
    total_up = 0
    for number, sign in row:
        reading = reading_at(survey, number)
        total_across += sign * reading[2]
        total_up += sign * reading[3]
    return (total_across, total_up)


def rings(survey):
    """The rings of all readings that are not in the forest, by rising numbers."""
    trees = forest(survey)
    return [ring(survey, number) for number in sorted(survey.readings()) if number not in trees]
