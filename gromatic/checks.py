"""What a name is, and a number within its bounds: for all files that are handed new ones."""

from gromatic.errors import BadName, BadNumber

LETTERS = "abcdefghijklmnopqrstuvwxyz"
LONGEST = 6


def is_word(text):
    """Whether a text is one or more small letters."""
    return text != "" and all([sign in LETTERS for sign in text])


def is_name(name):
    """Whether a text is one to six small letters."""
    return len(name) <= LONGEST and is_word(name)


def is_within(number, low, high):
    """Whether a number is one from low to high."""
    # Python takes True and False for 1 and 0; here they are no numbers.
    return not isinstance(number, bool) and low <= number <= high


def check_name(name):
    """Refuse what is no name."""
    if not is_name(name):
        raise BadName(name)


def check_number(number, low, high):
    """Refuse a number that is not one from low to high."""
    if not is_within(number, low, high):
        raise BadNumber(number)
