"""Clocks joined by flashes: how far each may be from the first, or a ring that can't be.

For each flash that one and other saw, one's early and its offset together are no later than other's late and its
offset together. So one's offset less other's is at most other's late less one's early: this is a tie of the two.
Ties one behind the other make a chain, and what their ends' offsets can differ by at most is the sum of its ties.
"""

from rigeyes.things import is_name, is_rising, is_row
from rigeyes.whole import is_within

MOST_ROWS = 24
LAST_MOMENT = 1000000


def are_flashes(thing):
    """Whether thing, which is anything, is flashes."""
    if not isinstance(thing, tuple) or len(thing) > MOST_ROWS:
        return False
    if not all([is_seeing(each) for each in thing]):
        return False
    # As no flash and looker come twice, the rows rise just where these do.
    return is_rising([(flash, looker) for flash, looker, early, late in thing])


def offsets(flashes):
    """A rising list of (looker, first, least, greatest), or None where joined clocks can't be so."""
    chains = join_all(flashes)
    if ring_among(chains) != []:
        return None
    rows = []
    for looker in all_lookers(flashes):
        first = min([other for one, other in chains if one == looker])
        least = -chains[(first, looker)][0]
        greatest = chains[(looker, first)][0]
        rows.append((looker, first, least, greatest))
    return rows


def ring(flashes):
    """A ring that shows that clocks can't be joined; [] where they can."""
    return ring_among(join_all(flashes))


def is_ring(flashes, thing):
    """Whether thing, which is anything, is a ring that shows that clocks can't be joined."""
    moments = {(flash, looker): (early, late) for flash, looker, early, late in flashes}
    if not isinstance(thing, list) or not all([is_step(moments, step) for step in thing]):
        return False
    ones = [one for one, other, flash in thing]
    others = [other for one, other, flash in thing]
    if others != ones[1:] + ones[:1] or len(set(ones)) != len(ones):
        return False
    return sum([moments[(flash, other)][1] - moments[(flash, one)][0] for one, other, flash in thing]) < 0


def is_seeing(thing):
    """Whether thing, which is anything, is (flash, looker, early, late)."""
    if not is_row(thing, 4):
        return False
    flash, looker, early, late = thing
    if not is_name(flash) or not is_name(looker):
        return False
    return is_moment(early) and is_moment(late) and early <= late


def is_moment(thing):
    """Whether thing, which is anything, is a moment of a clock."""
    return is_within(thing, 0, LAST_MOMENT)


def is_step(moments, thing):
    """Whether thing, which is anything, is (one, other, flash), unlike lookers that both saw the flash."""
    if not is_row(thing, 3) or not all([isinstance(part, str) for part in thing]):
        return False
    one, other, flash = thing
    return one != other and (flash, one) in moments and (flash, other) in moments


def all_lookers(flashes):
    """All lookers that saw a flash, rising, each once."""
    return sorted({looker for flash, looker, early, late in flashes})


def join_all(flashes):
    """{(one, other): (most, steps)}: the least chain from each looker to each that it is joined with, itself too.

    A looker's own is 0, of no steps. Where it is below 0, its steps are a ring, and the other chains are not done.
    """
    ties = {looker: ties_from(flashes, looker) for looker in all_lookers(flashes)}
    chains = {(looker, looker): (0, ()) for looker in ties}
    longer = lengthened(chains, ties)
    while longer != chains and ring_among(longer) == []:
        chains = longer
        longer = lengthened(chains, ties)
    return longer


def ties_from(flashes, one):
    """[(other, most, step)] for each flash that one saw and each other that saw it, too."""
    seen = [(flash, early) for flash, looker, early, late in flashes if looker == one]
    return [
        (other, late - early, (one, other, flash))
        for flash, early in seen
        for again, other, other_early, late in flashes
        if again == flash and other != one
    ]


def lengthened(chains, ties):
    """The chains, and each made longer by one tie wherever this is less; those handed in are left as they are.

    All grow by one tie at a time, so a chain that first comes back to its looker below 0 meets none twice: else it
    would be two such chains, and the one of them that is below 0, being shorter, would have been found ahead of it.
    """
    longer = {pair: chains[pair] for pair in chains}
    for (one, middle), (most, steps) in chains.items():
        for other, more, step in ties[middle]:
            pair = (one, other)
            if pair not in longer or most + more < longer[pair][0]:
                longer[pair] = (most + more, (*steps, step))
    return longer


def ring_among(chains):
    """The steps of a chain that comes back to its looker below 0, or []."""
    for (one, other), (most, steps) in chains.items():
        if one == other and most < 0:
            return list(steps)
    return []
