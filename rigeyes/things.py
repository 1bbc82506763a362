"""What may be asked of anything: names, tuples of so many, what rises; and lots of so many."""

LONGEST_NAME = 8


def is_name(thing):
    """Whether thing, which is anything, is a name."""
    if not isinstance(thing, str) or not 1 <= len(thing) <= LONGEST_NAME:
        return False
    # Python's own small letters are many more than a to z.
    return all(["a" <= sign <= "z" for sign in thing])


def is_row(thing, many):
    """Whether thing, which is anything, is a tuple of so many."""
    return isinstance(thing, tuple) and len(thing) == many


def is_rising(things):
    """Whether each of things, which can be compared, comes before the next one."""
    return all([one < other for one, other in zip(things, things[1:])])


def lots_of(things, many):
    """All tuples of so many of things, which are rising; each tuple is rising, and so are they."""
    lots = [()]
    for step in range(many):
        lots = [(*lot, thing) for lot in lots for thing in things if lot[-1:] < (thing,)]
    return lots
