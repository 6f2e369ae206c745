"""The desk: a works that is spoken to in lines of text."""

from gromatic.adjust import adjusted
from gromatic.deeds import SHAPES
from gromatic.errors import (BadKind, BadName, BadNumber, BadReading, BadRow, BadScale, BadText, Full, NoLine, NoMark,
                             NoReading, NoRoute, NoScale, NoSite, NothingFixed, NothingLeft, Taken, TooFar)
from gromatic.texts import ratio_text, read_deed, read_things, tile_text
from gromatic.works import Works

OK = "ok"
# For each line that is no deed's its things in order, as in SHAPES.
QUESTIONS = {
    "undo": (),
    "redo": (),
    "spot": ("name",),
    "way": ("name",),
    "tiles": ("name",),
    "tile": ("name", "number", "number"),
    "last": (),
}


def take_back(works, things):
    """Undo the last deed or run."""
    works.undo()
    return OK


def do_again(works, things):
    """Redo the last deed or run that was taken back."""
    works.redo()
    return OK


def spot_told(works, things):
    """Where a mark lies."""
    name = things[0]
    survey = works.survey()
    if not survey.hangs(name):
        return "loose"
    x, y = adjusted(survey)[name]
    return f"{ratio_text(x)} {ratio_text(y)}"


def way_told(works, things):
    """The way of a route."""
    told = works.stand().way(things[0])
    if told is None:
        return "none"
    return " ".join([ratio_text(told[0])] + told[1])


def tiles_told(works, things):
    """How many tiles of a scale have something."""
    return str(len(works.stand().sheet(things[0])))


def tile_told(works, things):
    """What a tile shows."""
    scale, a, b = things
    text = tile_text(works.stand().sheet(scale).tile((a, b)))
    return text.replace("\n", " ; ") if text else "nothing"


def last_told(works, things):
    """What the last deed, run, undo or redo turned."""
    return str(works.report())


ANSWERS = {
    "undo": take_back, "redo": do_again, "spot": spot_told, "way": way_told, "tiles": tiles_told, "tile": tile_told,
    "last": last_told,
}


def deed_answer(works, line):
    """Do the deed of a line, and tell what it tells."""
    told = works.do(read_deed(line))
    return OK if told is None else str(told)


def answer(works, line):
    """The answer to a line, where nothing is refused."""
    words = line.split(" ")
    if words[0] in SHAPES:
        return deed_answer(works, line)
    if words[0] not in QUESTIONS:
        raise BadText(0)
    things = read_things(words[1:], QUESTIONS[words[0]])
    action = ANSWERS[words[0]]
    return action(works, things)


def answer_or_bad(works, line):
    """The answer to a line, also where what it says is no good."""
    try:
        return answer(works, line)
    except BadText:
        return "what"
    except BadName:
        return "no badname"
    except BadNumber:
        return "no badnumber"
    except BadReading:
        return "no badreading"
    except BadKind:
        return "no badkind"
    except BadRow:
        return "no badrow"
    except BadScale:
        return "no badscale"
    except Taken:
        return "no taken"
    except Full:
        return "no full"
    except TooFar:
        return "no toofar"
    except NothingFixed:
        return "no nothingfixed"


def answer_or_absent(works, line):
    """The answer to a line, also where it is refused, for what it says or for what is not there."""
    try:
        return answer_or_bad(works, line)
    except NoMark:
        return "no nomark"
    except NoReading:
        return "no noreading"
    except NoLine:
        return "no noline"
    except NoSite:
        return "no nosite"
    except NoScale:
        return "no noscale"
    except NoRoute:
        return "no noroute"
    except NothingLeft:
        return "no nothingleft"


class Desk:
    """Answers lines of text from one works, and does in it what they say."""

    def __init__(self, *, works=None):
        self.works = Works() if works is None else works

    def say(self, line):
        """The answer to a line."""
        return answer_or_absent(self.works, line)
