"""Whole numbers and fractions."""


def is_whole(thing):
    """Whether thing is a whole number; a truth is an int to Python, but none here."""
    return isinstance(thing, int) and not isinstance(thing, bool)


def is_within(thing, least, greatest):
    """Whether thing, which is anything, is a whole number from least to greatest."""
    return is_whole(thing) and least <= thing <= greatest


def common_divisor(one, other):
    """The greatest number that divides both, at least 0; it is 0 only of 0 and 0."""
    one, other = abs(one), abs(other)
    while other != 0:
        one, other = other, one % other
    return one


def lowest(top, bottom):
    """The fraction that is worth top over bottom; bottom is not 0, but may be below it."""
    divisor = common_divisor(top, bottom)
    if bottom < 0:
        divisor = -divisor
    return (top // divisor, bottom // divisor)


def less(one, other):
    """(top, bottom), bottom above 0: the fraction one less other, not yet in lowest terms."""
    return (one[0] * other[1] - other[0] * one[1], one[1] * other[1])
