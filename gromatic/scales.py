"""Scales: how coarsely the land is drawn."""

from gromatic.checks import is_within
from gromatic.errors import BadScale
from gromatic.ratios import divided, nearest, plus, ratio

SIDE = 16


def check_part(part, number, low, high):
    """Refuse a part of a scale that is not a number from low to high."""
    if not is_within(number, low, high):
        raise BadScale(part)


class Scale:
    """A step and a tolerance in units of the land, a letter and a tile's side in steps; it never changes."""

    def __init__(self, step, *, tolerance=0, letter=1, side=SIDE):
        check_part("step", step, 1, 100)
        check_part("tolerance", tolerance, 0, 100)
        check_part("letter", letter, 1, 9)
        check_part("side", side, 8, 64)
        self.step = step
        self.tolerance = tolerance
        self.letter = letter
        self.side = side

    def slack(self):
        """The ratio of tolerance and a half of step."""
        return plus(ratio(self.tolerance, 1), ratio(self.step, 2))

    def __eq__(self, other):
        return (isinstance(other, Scale) and self.step == other.step and self.tolerance == other.tolerance
                and self.letter == other.letter and self.side == other.side)

    def __str__(self):
        return f"{self.step} {self.tolerance} {self.letter} {self.side}"

    def __repr__(self):
        return f"Scale({self.step})"


def drawn(spot, step):
    """The pair at which a spot is drawn."""
    return (nearest(divided(spot[0], (step, 1))), nearest(divided(spot[1], (step, 1))))
