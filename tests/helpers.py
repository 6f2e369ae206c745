"""What several test files share."""

from fractions import Fraction


def refuse(case, error, fields, call, *args, **more):
    """The call is refused with just this class and just these fields (True is not 1)."""
    with case.assertRaises(error) as caught:
        call(*args, **more)
    told = caught.exception
    case.assertIs(type(told), error)
    for name, value in fields.items():
        case.assertEqual(getattr(told, name), value)
        case.assertIs(type(getattr(told, name)), type(value))


def fraction(one):
    """A ratio as a Fraction; it must be in lowest terms."""
    over, under = one
    told = Fraction(over, under)
    if (told.numerator, told.denominator) != (over, under) or type(one) is not tuple:
        raise AssertionError(f"not in lowest terms: {one}")
    return told


def as_ratio(told):
    """A Fraction or a number as a ratio."""
    told = Fraction(told)
    return (told.numerator, told.denominator)


def spot(x, y):
    """Two Fractions or numbers as a spot."""
    return (as_ratio(x), as_ratio(y))


def filled(things, keys):
    """The dict with its keys put in in this order."""
    return {key: things[key] for key in keys}
