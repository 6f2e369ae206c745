"""Distances: how far spots and polylines lie from one another."""

from gromatic.ratios import (NOUGHT, ONE, between, divided, greater, lesser, minus, order, plus, ratio, size, stretch,
                             times)


def gap(one, other):
    """By how much two spots are apart."""
    return greater(size(minus(one[0], other[0])), size(minus(one[1], other[1])))


def pieces_of(polyline):
    """The straight pieces of a polyline, as pairs of spots; of one spot alone that from it to itself."""
    if len(polyline) == 1:
        return [(polyline[0], polyline[0])]
    return [(polyline[at - 1], polyline[at]) for at in range(1, len(polyline))]


def turns(spot, piece):
    """The shares of a piece at which its distance from a spot may be the least."""
    x = [minus(end[0], spot[0]) for end in piece]
    y = [minus(end[1], spot[1]) for end in piece]
    shares = [NOUGHT, ONE]
    # The distance bends only where one difference is nought, or both are of one size.
    for start, end in (x, y, (minus(x[0], y[0]), minus(x[1], y[1])), (plus(x[0], y[0]), plus(x[1], y[1]))):
        if start != end:
            shares.append(divided(start, minus(start, end)))
    return [share for share in shares if order(share, NOUGHT) >= 0 and order(share, ONE) <= 0]


def apart(spot, polyline):
    """The least ratio by which a spot is apart from a point of a polyline."""
    least = gap(spot, polyline[0])
    for piece in pieces_of(polyline):
        for share in turns(spot, piece):
            least = lesser(least, gap(spot, between(piece[0], piece[1], share)))
    return least


def narrowed(span, start, end, low, high):
    """Of a span of shares the part in which a number that goes evenly from start to end is one from low to high.

    A span is a pair of ratios, None where nothing is left of it.
    """
    if span is None:
        return None
    way = minus(end, start)
    if way == NOUGHT:
        return span if order(low, start) <= 0 and order(start, high) <= 0 else None
    shares = [divided(minus(low, start), way), divided(minus(high, start), way)]
    first = greater(span[0], lesser(shares[0], shares[1]))
    last = lesser(span[1], greater(shares[0], shares[1]))
    return (first, last) if order(first, last) <= 0 else None


def off_side(piece, spot):
    """A number that goes evenly with a spot's distance from the line of a piece, below nought on one side of it."""
    start, end = piece
    return minus(times(minus(end[0], start[0]), minus(spot[1], start[1])),
                 times(minus(end[1], start[1]), minus(spot[0], start[0])))


def span_near(piece, other, slack):
    """The span of shares of a piece that lie within slack of another piece."""
    span = (NOUGHT, ONE)
    for way in (0, 1):
        low = minus(lesser(other[0][way], other[1][way]), slack)
        high = plus(greater(other[0][way], other[1][way]), slack)
        span = narrowed(span, piece[0][way], piece[1][way], low, high)
    if span is None:
        return None
    # A square that is moved along a piece covers a box but for two corners, which two lines along the piece cut off.
    room = times(slack, stretch(other[0], other[1]))
    return narrowed(span, off_side(other, piece[0]), off_side(other, piece[1]), minus(NOUGHT, room), room)


def covered_to(spans):
    """The share up to which the spans cover all from nought on; nought also where none of them has it."""
    reach = NOUGHT
    growing = True
    while growing:
        growing = False
        for low, high in spans:
            if order(low, reach) <= 0 and order(high, reach) > 0:
                reach = high
                growing = True
    return reach


def bare_share(spans):
    """A share that lies in none of the spans, or None."""
    reach = covered_to(spans)
    if reach == ONE:
        return None
    # No span begins between reach and ahead, and all that begin before them end at reach at the latest.
    ahead = ONE
    for low, high in spans:
        if order(low, reach) > 0:
            ahead = lesser(ahead, low)
    return times(ratio(1, 2), plus(reach, ahead))


def bare(ones, others, slack):
    """A point of the polyline ones that lies within slack of no point of others; None where there is none."""
    near = pieces_of(others)
    for piece in pieces_of(ones):
        spans = [span_near(piece, other, slack) for other in near]
        share = bare_share([span for span in spans if span is not None])
        if share is not None:
            return between(piece[0], piece[1], share)
    return None
