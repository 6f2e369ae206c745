"""Texts: how tiles and deeds are written, and read again."""

from gromatic.checks import is_word
from gromatic.deeds import SHAPES
from gromatic.errors import BadText
from gromatic.ratios import ratio

FIGURES = "0123456789"
TILE_FIGURES = 30
DEED_FIGURES = 9
NOTHING = "-"
PIECE = 0
SITE = 1
NAME = 2


def read_number(word, most, at):
    """The number that a word writes with so many figures at the most; at is the line that it stands in."""
    figures = word.removeprefix("-")
    if not 1 <= len(figures) <= most or not all([sign in FIGURES for sign in figures]):
        raise BadText(at)
    number = int(word)
    # Needless noughts and -0 are seen by writing the number again.
    if str(number) != word:
        raise BadText(at)
    return number


def read_numbers(word, many, most, at):
    """The tuple of so many numbers that a word writes with commas between."""
    parts = word.split(",")
    if len(parts) != many:
        raise BadText(at)
    return tuple([read_number(part, most, at) for part in parts])


def read_name(word, at):
    """The name that a word is."""
    if not is_word(word):
        raise BadText(at)
    return word


def ratio_text(one):
    """A ratio as it is written."""
    over, under = one
    return str(over) if under == 1 else f"{over}/{under}"


def read_ratio(word, at):
    """The ratio that a word writes."""
    over, slash, under = word.partition("/")
    if slash == "":
        return (read_number(word, TILE_FIGURES, at), 1)
    told = (read_number(over, TILE_FIGURES, at), read_number(under, TILE_FIGURES, at))
    if told[1] < 2 or ratio(told[0], told[1]) != told:
        raise BadText(at)
    return told


def spot_text(spot):
    """A spot as it is written."""
    return f"{ratio_text(spot[0])},{ratio_text(spot[1])}"


def read_spot(word, at):
    """The spot that a word writes."""
    parts = word.split(",")
    if len(parts) != 2:
        raise BadText(at)
    return (read_ratio(parts[0], at), read_ratio(parts[1], at))


def numbers_text(numbers):
    """Numbers with commas between."""
    return ",".join([str(number) for number in numbers])


def tile_text(tile):
    """The text of a tile, a line for each of its things."""
    pieces, sites, names = tile
    lines = [f"line {name} {number} {spot_text(start)} {spot_text(end)}" for name, number, start, end in pieces]
    lines.extend([f"site {name} {numbers_text(pair)}" for name, pair in sites])
    lines.extend([f"name {name} {numbers_text(box)}" for name, box in names])
    return "\n".join(lines)


def read_piece(things, at):
    """The piece that the words of a line write."""
    name, number, start, end = things
    told = (read_name(name, at), read_number(number, TILE_FIGURES, at), read_spot(start, at), read_spot(end, at))
    if told[1] < 0:
        raise BadText(at)
    return told


def read_tile_line(line, at):
    """What a line of a tile's text writes: a pair of the place of its list in the tile, and the thing."""
    words = line.split(" ")
    word, things = words[0], words[1:]
    if word == "line" and len(things) == 4:
        return (PIECE, read_piece(things, at))
    if word == "site" and len(things) == 2:
        return (SITE, (read_name(things[0], at), read_numbers(things[1], 2, TILE_FIGURES, at)))
    if word == "name" and len(things) == 2:
        return (NAME, (read_name(things[0], at), read_numbers(things[1], 4, TILE_FIGURES, at)))
    raise BadText(at)


def read_tile(text):
    """The tile that a text writes."""
    tile = ([], [], [])
    if text == "":
        return tile
    latest = PIECE
    for at, line in enumerate(text.split("\n")):
        part, thing = read_tile_line(line, at)
        if part < latest:
            raise BadText(at)
        latest = part
        tile[part].append(thing)
    return tile


def thing_text(thing):
    """A thing of a deed as it is written."""
    if thing is None:
        return NOTHING
    if isinstance(thing, (list, tuple)):
        return ",".join([str(part) for part in thing]) if thing else NOTHING
    return str(thing)


def deed_text(deed):
    """The text of a deed."""
    return " ".join([thing_text(thing) for thing in deed])


def read_thing(word, kind):
    """The thing of a deed that a word writes; kind says which one is meant, as in SHAPES."""
    if kind == "name":
        return read_name(word, 0)
    if kind == "number":
        return read_number(word, DEED_FIGURES, 0)
    if kind == "marks":
        return () if word == NOTHING else tuple([read_name(part, 0) for part in word.split(",")])
    if word == NOTHING:
        return None
    if kind == "weight":
        return read_number(word, DEED_FIGURES, 0)
    return read_numbers(word, 2, DEED_FIGURES, 0)


def read_things(words, kinds):
    """The list of the things that words write, one for each of the kinds."""
    if len(words) != len(kinds):
        raise BadText(0)
    return [read_thing(words[at], kinds[at]) for at in range(len(kinds))]


def read_deed(text):
    """The deed that a text writes, whether or not a works would do it."""
    words = text.split(" ")
    if words[0] not in SHAPES:
        raise BadText(0)
    things = read_things(words[1:], SHAPES[words[0]])
    return (words[0], *things)
