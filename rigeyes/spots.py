"""Spots: whether they see cells from two sides, the fewest that do, and a tree that so many don't.

Sides are {cell: {spot: line}}: for each cell of a wish all spots that see it, rising, each with the line by which.
"""

from rigeyes.rooms import gap, sees
from rigeyes.things import is_row, lots_of
from rigeyes.whole import common_divisor, is_whole


def sees_well(room, lot, cell):
    """Whether two of the lot see the cell whose middles don't lie on one line with its own."""
    return is_seen_well(lines_to(room, lot, cell), lot)


def fewest(room, spots, wish):
    """The fewest spots that see all of the wish well, of as few the first; None where all spots don't."""
    sides = sides_of(room, spots, wish)
    for many in range(len(spots) + 1):
        for lot in lots_of(spots, many):
            if unseen(sides, wish, lot) == []:
                return lot
    return None


def tree(room, spots, wish, many):
    """A tree that so many spots don't see all of the wish well; None where so many do."""
    enough = fewest(room, spots, wish)
    if enough is not None and len(enough) <= many:
        return None
    return branch(sides_of(room, spots, wish), wish, (), many)


def is_tree(room, spots, wish, many, thing):
    """Whether thing, which is anything, is a tree that so many spots don't see all of the wish well."""
    return is_branch(sides_of(room, spots, wish), (), many, thing)


def sides_of(room, spots, wish):
    """The sides from which the spots see the cells of the wish."""
    return {cell: lines_to(room, spots, cell) for cell in wish}


def lines_to(room, spots, cell):
    """{spot: line} for all of the spots that see the cell, in their order."""
    return {spot: line(cell, spot) for spot in spots if sees(room, spot, cell)}


def line(cell, spot):
    """(dx, dy), alike for all spots just where they lie on one line with the cell, on either side of it."""
    dx, dy = gap(cell, spot)
    divisor = common_divisor(dx, dy)
    if (dx, dy) < (0, 0):
        divisor = -divisor
    return (dx // divisor, dy // divisor)


def is_seen_well(lines, lot):
    """Whether two of the lot see the cell to which the lines go, by unlike lines."""
    return len({lines[spot] for spot in lot if spot in lines}) > 1


def unseen(sides, wish, lot):
    """A list of the cells of the wish that the lot doesn't see well, in their order."""
    return [cell for cell in wish if not is_seen_well(sides[cell], lot)]


def untaken(lines, taken):
    """A rising list of the spots not taken that see the cell to which the lines go."""
    return [spot for spot in lines if spot not in taken]


def branch(sides, wish, taken, many):
    """A tree for the spots taken so far; the wish may be handed in without cells that they see well.

    There is one whichever are taken: as so many spots don't see all of the wish well, these don't either.
    """
    left = unseen(sides, wish, taken)
    if len(taken) == many:
        return ("open", left[0])
    # Any cell will do, but the fewer spots see it the smaller is the tree.
    cell = min([(len(untaken(sides[each], taken)), each) for each in left])[1]
    more = untaken(sides[cell], taken)
    return ("by", cell, tuple([branch(sides, left, (*taken, spot), many) for spot in more]))


def is_branch(sides, taken, many, thing):
    """Whether thing, which is anything, is a tree for the spots taken so far."""
    if len(taken) == many:
        return is_row(thing, 2) and thing[0] == "open" and is_left(sides, taken, thing[1])
    if not is_row(thing, 3) or thing[0] != "by" or not is_left(sides, taken, thing[1]):
        return False
    more = untaken(sides[thing[1]], taken)
    if not is_row(thing[2], len(more)):
        return False
    return all([is_branch(sides, (*taken, spot), many, part) for spot, part in zip(more, thing[2])])


def is_left(sides, taken, thing):
    """Whether thing, which is anything, is a cell of the wish that the spots taken don't see well."""
    # A truth is like a number to Python, so being among the cells is not enough.
    if not is_row(thing, 2) or not all([is_whole(part) for part in thing]):
        return False
    return thing in sides and not is_seen_well(sides[thing], taken)
