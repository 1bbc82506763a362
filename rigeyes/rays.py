"""Directions, rays, and where rays meet."""

from rigeyes.things import is_row
from rigeyes.whole import common_divisor, is_within, less, lowest

FARTHEST = 200


def is_direction(thing):
    """Whether thing, which is anything, is a direction."""
    if not is_row(thing, 2) or not all([is_within(part, -FARTHEST, FARTHEST) for part in thing]):
        return False
    return common_divisor(thing[0], thing[1]) == 1


def direction(one, other):
    """The direction from one to other, an unlike point, in whichever great numbers."""
    (dx, dy), scale = apart(one, other)
    divisor = common_divisor(dx, dy)
    return (dx // divisor, dy // divisor)


def is_on(point, way, other):
    """Whether other lies on the ray that goes from point along way."""
    gap, scale = apart(point, other)
    # The point itself is not on its ray: there the gap is nought, and so is this sum.
    ahead = gap[0] * way[0] + gap[1] * way[1]
    return turn(gap, way) == 0 and ahead > 0


def meet(one, way, other, towards):
    """The only point on both the ray of one along way and that of other along towards, or None."""
    bend = turn(way, towards)
    if bend == 0:
        # Parallel rays share no point; rays of one line none or many, never one, as their own points are not on them.
        return None
    gap, scale = apart(one, other)
    first, second = turn(gap, towards), turn(gap, way)
    if first * bend <= 0 or second * bend <= 0:
        return None
    return moved(one, way, first, bend * scale)


def stand(one, way, other, towards):
    """Where a looker stands that sees one along way and other along towards, or None."""
    return meet(one, contrary(way), other, contrary(towards))


def apart(one, other):
    """((dx, dy), scale), whole numbers, scale above 0: from one to other it is dx and dy, each over scale."""
    x = less(other[0], one[0])
    y = less(other[1], one[1])
    return (x[0] * y[1], y[0] * x[1]), x[1] * y[1]


def turn(one, other):
    """Above 0 where other goes to the left of one, below 0 where to the right, 0 where along one line."""
    return one[0] * other[1] - one[1] * other[0]


def moved(point, way, top, bottom):
    """The point that lies from point by way times top over bottom."""
    x, y = point
    return (
        lowest(x[0] * bottom + way[0] * top * x[1], x[1] * bottom),
        lowest(y[0] * bottom + way[1] * top * y[1], y[1] * bottom),
    )


def contrary(way):
    """The direction straight back."""
    return (-way[0], -way[1])
