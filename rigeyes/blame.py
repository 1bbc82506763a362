"""Lookers that were moved: the fewest that are to blame, and the paper that no fewer are."""

from rigeyes.surveys import at_odds, is_sound, lookers_of
from rigeyes.things import is_row, lots_of


def fewest_moved(survey):
    """The lot of fewest lookers, of as few the first, without whose sights the survey is sound."""
    lookers = lookers_of(survey[1])
    for many in range(len(lookers)):
        for lot in lots_of(lookers, many):
            if is_sound(without(survey, lot)):
                return lot
    # Where no sight is left, none is at odds.
    return tuple(lookers)


def moved_paper(survey):
    """The paper that no fewer lookers are to blame than fewest_moved tells."""
    lots = lots_below(survey, len(fewest_moved(survey)))
    return tuple([(lot, at_odds(without(survey, lot))[0]) for lot in lots])


def is_moved_paper(survey, many, thing):
    """Whether thing, which is anything, is a paper that no fewer lookers than many are to blame."""
    lots = lots_below(survey, many)
    if not is_row(thing, len(lots)):
        return False
    return all([is_against(survey, lot, pair) for lot, pair in zip(lots, thing)])


def is_against(survey, lot, pair):
    """Whether the pair, which is anything, is the lot and a sight that is at odds without the lot's sights."""
    return is_row(pair, 2) and pair[0] == lot and pair[1] in at_odds(without(survey, lot))


def without(survey, lot):
    """The survey without all sights of the lookers of the lot."""
    knowns, sights = survey
    return (knowns, tuple([sight for sight in sights if sight[0] not in lot]))


def lots_below(survey, many):
    """All lots of fewer than many of the survey's lookers, rising."""
    lookers = lookers_of(survey[1])
    # However great many is, no lot has more than all lookers.
    sizes = min(many, len(lookers) + 1)
    return sorted([lot for size in range(sizes) for lot in lots_of(lookers, size)])
