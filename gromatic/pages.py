"""Pages: the text of all that was done in a works, and the works that it makes again."""

from gromatic.errors import AbsentError, BadText, GroundError
from gromatic.texts import DEED_FIGURES, deed_text, read_deed, read_number
from gromatic.works import Works

RUN = "run"


def entry_lines(entry):
    """The lines of a deed, or of a run, a list of deeds."""
    if isinstance(entry, list):
        return [f"{RUN} {len(entry)}"] + [deed_text(deed) for deed in entry]
    return [deed_text(entry)]


def page(works):
    """The text of what was done, a line end behind each line."""
    return "".join([f"{line}\n" for entry in works.done() for line in entry_lines(entry)])


def is_run(line):
    """Whether a line begins a run, well written or not."""
    return line.split(" ")[0] == RUN


def run_length(line, at):
    """How many deeds the run has that line at begins."""
    words = line.split(" ")
    if len(words) != 2:
        raise BadText(at)
    many = read_number(words[1], DEED_FIGURES, at)
    if many < 1:
        raise BadText(at)
    return many


def deed_at(lines, at):
    """The deed of line at; behind the last line there is none."""
    if at == len(lines):
        raise BadText(at)
    try:
        return read_deed(lines[at])
    except BadText:
        raise BadText(at) from None


def read_run(works, lines, at):
    """Do the run that line at begins; the number of the line behind it is told."""
    behind = at + 1 + run_length(lines[at], at)
    deeds = []
    for place in range(at + 1, behind):
        deeds.append(deed_at(lines, place))
    try:
        works.run(deeds)
    except (GroundError, AbsentError):
        raise BadText(at) from None
    return behind


def read_single(works, lines, at):
    """Do the deed of line at; the number of the line behind it is told."""
    deed = deed_at(lines, at)
    try:
        works.do(deed)
    except (GroundError, AbsentError):
        raise BadText(at) from None
    return at + 1


def read_page(text):
    """A works in which all was done that a page tells."""
    lines = text.split("\n")
    # What stands behind the last line end is no line, and must be nothing.
    rest = lines.pop()
    works = Works()
    at = 0
    while at < len(lines):
        if is_run(lines[at]):
            at = read_run(works, lines, at)
        else:
            at = read_single(works, lines, at)
    if rest != "":
        raise BadText(at)
    return works
