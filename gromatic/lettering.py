"""Lettering: where the names of sites are written."""

SIDES = ("ne", "nw", "se", "sw")


def box_at(pair, name, letter, side):
    """The box of a name at one side of a pair."""
    i, j = pair
    wide = len(name) * letter
    left = i if side in ("ne", "se") else i - wide
    low = j if side in ("ne", "nw") else j - letter
    return (left, low, left + wide, low + letter)


def has_pair(box, pair):
    """Whether a pair lies in a box or on its rim."""
    left, low, right, top = box
    return left <= pair[0] <= right and low <= pair[1] <= top


def touch(one, other):
    """Whether two boxes have a point in common, rims too."""
    return one[0] <= other[2] and other[0] <= one[2] and one[1] <= other[3] and other[1] <= one[3]


def taken_order(sites):
    """The names of the sites, by rank, then by name."""
    return sorted(sites, key=lambda name: (sites[name][1], name))


def standing_at(sites):
    """A dict from each pair of sites to the name of the one that stands there, in the order in which they are taken."""
    told = {}
    for name in taken_order(sites):
        told.setdefault(sites[name][0], name)
    return told


def bar(name, box, standing, laid):
    """What bars a box of a name: a tuple of a word and a name, or None."""
    for pair in standing:
        if standing[pair] != name and has_pair(box, pair):
            return ("site", standing[pair])
    for other in laid:
        if touch(box, laid[other]):
            return ("name", other)
    return None


def lettering_of(name, pair, letter, standing, laid):
    """What is told of a standing site, where the names laid are lettered ahead of it."""
    bars = []
    for side in SIDES:
        box = box_at(pair, name, letter, side)
        why = bar(name, box, standing, laid)
        if why is None:
            return ("laid", side, box)
        bars.append(why)
    return ("barred", bars)


def lettered(sites, letter):
    """For each site by name: a tuple that begins with "laid", "under" or "barred"."""
    standing = standing_at(sites)
    told = {}
    laid = {}
    for pair in standing:
        name = standing[pair]
        told[name] = lettering_of(name, pair, letter, standing, laid)
        if told[name][0] == "laid":
            laid[name] = told[name][2]
    for name in sites:
        if name not in told:
            told[name] = ("under", standing[sites[name][0]])
    return {name: told[name] for name in sorted(told)}


def lettered_holds(sites, letter, told):
    """Whether a dict is just what lettered tells."""
    return told == lettered(sites, letter)
