"""Rooms: their open cells, and which of them see one another."""

from rigeyes.rays import turn

MOST_LINES = 6
LONGEST_LINE = 6
WALL = "#"
FREE = "."


def is_room(thing):
    """Whether thing, which is anything, is a room."""
    if not isinstance(thing, tuple) or not 1 <= len(thing) <= MOST_LINES:
        return False
    if not all([is_line(each) for each in thing]):
        return False
    return len({len(line) for line in thing}) == 1 and any([FREE in line for line in thing])


def cells(room):
    """A rising list of all open cells."""
    return cells_of(room, FREE)


def sees(room, cell, other):
    """Whether the one open cell sees the other one."""
    if cell == other:
        return False
    return not any([is_between(wall, cell, other) for wall in cells_of(room, WALL)])


def seen_from(room, cell):
    """A rising list of all open cells that the cell sees, itself not."""
    return [other for other in cells(room) if sees(room, cell, other)]


def is_line(thing):
    """Whether thing, which is anything, is one text of a room."""
    if not isinstance(thing, str) or not 1 <= len(thing) <= LONGEST_LINE:
        return False
    return all([sign in (WALL, FREE) for sign in thing])


def cells_of(room, sign):
    """A rising list of all cells with this sign."""
    return sorted([(x, y) for y, line in enumerate(room) for x, each in enumerate(line) if each == sign])


def is_between(wall, one, other):
    """Whether the straight way between the middles of one and other has a point in the wall cell, or on its rim."""
    # What lies beside all columns, or all rows, from the one to the other is half a cell away from the way.
    for at in (0, 1):
        if not min(one[at], other[at]) <= wall[at] <= max(one[at], other[at]):
            return False
    way = gap(one, other)
    dx, dy = gap(one, wall)
    # Twice the way from one's middle to a corner of the wall is in whole numbers.
    sides = [turn(way, (2 * dx + right, 2 * dy + down)) for right in (-1, 1) for down in (-1, 1)]
    # The way goes past only where all corners lie to one side of it, none on its line.
    return min(sides) <= 0 <= max(sides)


def gap(one, other):
    """(dx, dy) from the one cell to the other."""
    return (other[0] - one[0], other[1] - one[1])
