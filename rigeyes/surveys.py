"""Surveys: what is found from a few known points, by which way, and what is at odds."""

from rigeyes.rays import contrary, is_direction, is_on, meet
from rigeyes.things import is_name, is_rising, is_row
from rigeyes.whole import is_within

MOST_KNOWNS = 6
FARTHEST_PLACE = 99
MOST_SIGHTS = 16
MOST_LOOKERS = 5
MOST_MARKS = 5


def is_survey(thing):
    """Whether thing, which is anything, is a survey."""
    return is_row(thing, 2) and are_knowns(thing[0]) and are_sights(thing[1])


def located(survey):
    """A rising list of (name, point, round), for all that is found."""
    found = find_all(survey)
    return [(name, found[name][0], found[name][1]) for name in sorted(found)]


def way_to(survey, name):
    """The steps (name, one, other), by rounds, then by names, by which name is found; None where it is not."""
    found = find_all(survey)
    if name not in found:
        return None
    needed = {name}
    steps = []
    # Backwards, each one comes ahead of the two by which it was found.
    for each in reversed(list(found)):
        point, number, two = found[each]
        if each in needed and two != ():
            one, other = two
            needed.add(one)
            needed.add(other)
            steps.append((each, one, other))
    return steps[::-1]


def at_odds(survey):
    """A rising list of (looker, mark), for all sights at odds."""
    found = find_all(survey)
    return [(looker, mark) for looker, mark, way in sorted(survey[1]) if is_odd(found, looker, mark, way)]


def is_sound(survey):
    """Whether no sight is at odds."""
    return at_odds(survey) == []


def are_knowns(thing):
    """Whether thing, which is anything, is the knowns of a survey."""
    if not isinstance(thing, tuple) or not 1 <= len(thing) <= MOST_KNOWNS:
        return False
    if not all([is_known(each) for each in thing]):
        return False
    # As names are unlike, knowns rise just where their names do.
    return is_rising([name for name, place in thing])


def is_known(thing):
    """Whether thing, which is anything, is a name and a place."""
    return is_row(thing, 2) and is_name(thing[0]) and is_place(thing[1])


def is_place(thing):
    """Whether thing, which is anything, is a place (x, y) that may be handed in."""
    return is_row(thing, 2) and all([is_within(part, -FARTHEST_PLACE, FARTHEST_PLACE) for part in thing])


def are_sights(thing):
    """Whether thing, which is anything, is the sights of a survey."""
    if not isinstance(thing, tuple) or len(thing) > MOST_SIGHTS:
        return False
    if not all([is_sight(each) for each in thing]):
        return False
    # As no looker and mark come twice, sights rise just where these do.
    if not is_rising([(looker, mark) for looker, mark, way in thing]):
        return False
    lookers, marks = lookers_of(thing), marks_of(thing)
    if len(lookers) > MOST_LOOKERS or len(marks) > MOST_MARKS:
        return False
    return not any([mark in lookers for mark in marks])


def is_sight(thing):
    """Whether thing, which is anything, is (looker, mark, direction)."""
    return is_row(thing, 3) and is_name(thing[0]) and is_name(thing[1]) and is_direction(thing[2])


def lookers_of(sights):
    """All lookers of the sights, rising, each once."""
    return sorted({looker for looker, mark, way in sights})


def marks_of(sights):
    """All marks of the sights, rising, each once."""
    return sorted({mark for looker, mark, way in sights})


def find_all(survey):
    """{name: (point, number, two)} of all that is found, in the order of rounds, then of names.

    The number is that of the round, and the two are those by which it was found: none of a known one.
    """
    knowns, sights = survey
    rays = rays_to(sights)
    found = {name: (((x, 1), (y, 1)), 0, ()) for name, (x, y) in knowns}
    number = 1
    newly = find_more(rays, found, number)
    while newly != {}:
        found.update(newly)
        number += 1
        newly = find_more(rays, found, number)
    return found


def rays_to(sights):
    """{name: [(other, way)]}: the ray of the other's point along way goes to the name, the others rising."""
    rays = {}
    for looker, mark, way in sorted(sights):
        rays.setdefault(mark, []).append((looker, way))
        # A looker stands where rays meet that go back from its marks, so both are found alike.
        rays.setdefault(looker, []).append((mark, contrary(way)))
    return rays


def find_more(rays, found, number):
    """What is found in the round of this number by what is found so far, which is left as it is."""
    newly = {}
    for name in sorted(rays):
        if name not in found:
            point, two = first_met(rays[name], found)
            if point is not None:
                newly[name] = (point, number, two)
    return newly


def first_met(rays, found):
    """(point, two): where the first two of the rays meet that go from what is found, and those two; or (None, ())."""
    begun = [(name, found[name][0], way) for name, way in rays if name in found]
    for at, (one, start, way) in enumerate(begun):
        for other, begin, towards in begun[at + 1:]:
            point = meet(start, way, begin, towards)
            if point is not None:
                return (point, (one, other))
    return (None, ())


def is_odd(found, looker, mark, way):
    """Whether looker and mark are both found, but the mark does not lie from the looker along way."""
    if looker not in found or mark not in found:
        return False
    return not is_on(found[looker][0], way, found[mark][0])
