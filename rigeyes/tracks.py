"""Tracks: the most rows that one even walk goes by, and this walk."""

from rigeyes.things import lots_of
from rigeyes.whole import lowest

NOUGHT = (0, 1)


def along(track):
    """A rising list of the places of the most rows that one walk goes by, of as many the first; None of no row."""
    if len(track) == 0:
        return None
    best = [0]
    # Lots of unlike walks share one row at most, so of as many the first one is that of the first two.
    for one, other in lots_of(list(range(len(track))), 2):
        places = [at for at, row in enumerate(track) if is_by(row, track[one], track[other])]
        if len(places) > len(best):
            best = places
    return best


def walk_of(track):
    """The walk (start, step) that goes by most rows, as along tells; None where there is no row."""
    places = along(track)
    if places is None:
        return None
    if len(places) == 1:
        x, y = track[0][1]
        return (((x, 1), (y, 1)), (NOUGHT, NOUGHT))
    return walk_by(track[places[0]], track[places[1]])


def where_at(walk, moment):
    """The point at which the walk is at the moment."""
    (x, y), (dx, dy) = walk
    return (after(x, dx, moment), after(y, dy, moment))


def is_by(row, one, other):
    """Whether the walk that goes by one and other, rows of unlike moments, goes by this row, too."""
    span, dx, dy = since(one, other)
    part, x, y = since(one, row)
    return x * span == dx * part and y * span == dy * part


def walk_by(one, other):
    """The walk that goes by both rows, which are of unlike moments."""
    span, dx, dy = since(one, other)
    moment, (x, y) = one
    start = (lowest(x * span - moment * dx, span), lowest(y * span - moment * dy, span))
    return (start, (lowest(dx, span), lowest(dy, span)))


def since(one, other):
    """(moments, dx, dy) from the one row to the other."""
    begin, (x, y) = one
    moment, (far, high) = other
    return (moment - begin, far - x, high - y)


def after(begin, step, moment):
    """The fraction begin and moment times the fraction step together."""
    return lowest(begin[0] * step[1] + moment * step[0] * begin[1], begin[1] * step[1])
