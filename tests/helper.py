"""What several tests need: things of all kinds, surveys made by hand, and plain fractions to check against."""

import functools
import itertools
import math
import random
from fractions import Fraction

GREAT = 10**40 - 1


def nested(inmost, kind, depth):
    thing = inmost
    for _ in range(depth):
        thing = kind([thing])
    return thing


def all_kinds():
    """Things of all kinds that nothing in particular is."""
    things = [None, True, False, 0, 1, -1, 2, GREAT, -GREAT, "", "a", "ab", "A", "a b", "()", "\u00e9", "1"]
    things += [(), [], [[]], [()], [1], ["a"], [None], [("a", "b", "c")], (1,), ("a",), (None,), ((),), ([],), (True,)]
    things += [("a", "b"), ("a", ("b", "c")), (("a",), ("b",)), (1, 2, 3), ("a", 1, 2, 3), ((), ()), ([], [])]
    things += [("a", "b", "c"), ("a", "b", (1, 0)), (((), ("a", "b")),), [("a", "b", "c"), ("b", "a", "c")]]
    for kind, inmost, depth in itertools.product((list, tuple), ("a", 1, True, None, (), []), (2, 29, 30)):
        things.append(nested(inmost, kind, depth))
    return things


def swapped_kinds(thing):
    """The thing with one of its parts, or itself, in turn replaced by what is of another kind."""
    if isinstance(thing, (tuple, list)):
        other = list if isinstance(thing, tuple) else tuple
        yield from (other(thing), None, True, 1, "a", nested(thing, tuple, 1), nested(thing, list, 1), (*thing, None))
        for at, part in enumerate(thing):
            for swapped in swapped_kinds(part):
                yield type(thing)([*thing[:at], swapped, *thing[at + 1:]])
    elif isinstance(thing, str):
        yield from (None, True, 0, 1, (), [], (thing,), [thing], list(thing), tuple(thing), nested(thing, tuple, 26))
    else:
        yield from (None, True, False, str(thing), (), [], (thing,), [thing], nested(thing, list, 26))


def whole(x, y):
    return ((x, 1), (y, 1))


def told(x, y):
    x, y = Fraction(x), Fraction(y)
    return ((x.numerator, x.denominator), (y.numerator, y.denominator))


def way(one, other):
    """The direction from one pair (x, y) of whole numbers to another one."""
    dx, dy = other[0] - one[0], other[1] - one[1]
    divisor = math.gcd(dx, dy)
    return (dx // divisor, dy // divisor)


def survey_of(places, knowns, pairs):
    """The survey of true sights; places {name: (x, y)}, knowns a text of names, pairs a text of "looker-mark"."""
    sights = []
    for pair in pairs.split():
        looker, mark = pair.split("-")
        sights.append((looker, mark, way(places[looker], places[mark])))
    return (tuple(sorted((name, places[name]) for name in knowns.split())), tuple(sorted(sights)))


def turned(survey, looker, mark, direction):
    """The survey with this one direction."""
    knowns, sights = survey
    return (knowns, tuple((one, other, direction if (one, other) == (looker, mark) else way)
                          for one, other, way in sights))


def random_survey(chance, spread, falsely):
    """A survey of places that are at most spread from nought; so many of its sights are false."""
    lookers = chance.sample("abcdefgh", chance.randint(2, 5))
    marks = chance.sample("pqrstuvw", chance.randint(2, 5))
    spots = chance.sample(list(itertools.product(range(-spread, spread + 1), repeat=2)), len(lookers) + len(marks))
    places = dict(zip(lookers + marks, spots))
    pairs = [f"{looker}-{mark}" for looker in lookers for mark in marks]
    pairs = chance.sample(pairs, min(len(pairs), chance.randint(4, 16)))
    knowns = chance.sample(lookers + marks, chance.randint(2, min(4, len(places))))
    survey = survey_of(places, " ".join(knowns), " ".join(pairs))
    for looker, mark, _ in chance.sample(survey[1], min(falsely, len(survey[1]))):
        survey = turned(survey, looker, mark, way((0, 0), chance.choice(((1, 0), (1, 1), (0, 1), (-1, 2), (2, 1)))))
    return places, survey


def random_surveys(seed, many, spread=6, falsely=0):
    chance = random.Random(seed)
    return [random_survey(chance, spread, falsely) for _ in range(many)]


def plainly_on(start, way, point):
    """Whether the point, of Fractions, is from start, of Fractions, a positive number of times the way."""
    dx, dy = point[0] - start[0], point[1] - start[1]
    times = dx / way[0] if way[0] else dy / way[1]
    return times > 0 and (dx, dy) == (times * way[0], times * way[1])


def plainly_met(one, way, other, towards):
    """The only point of both rays, of Fractions, or None."""
    (a, b), (c, d) = way, towards
    if a * d == b * c:
        return None
    times = Fraction((other[0] - one[0]) * d - (other[1] - one[1]) * c) / (a * d - b * c)
    point = (one[0] + times * a, one[1] + times * b)
    return point if plainly_on(one, way, point) and plainly_on(other, towards, point) else None


def plainly_found(survey):
    """{name: (point, round, two)}, with points of Fractions, by the words of point 7 one by one."""
    knowns, sights = survey
    found = {name: ((Fraction(x), Fraction(y)), 0, None) for name, (x, y) in knowns}
    lookers, marks = {row[0] for row in sights}, {row[1] for row in sights}
    direction = {(looker, mark): way for looker, mark, way in sights}
    for number in itertools.count(1):
        ahead = dict(found)
        for mark in marks - set(ahead):
            for one, other in itertools.combinations(sorted(lookers & set(ahead)), 2):
                if (one, mark) in direction and (other, mark) in direction and mark not in found:
                    point = plainly_met(ahead[one][0], direction[one, mark], ahead[other][0], direction[other, mark])
                    if point is not None:
                        found[mark] = (point, number, (one, other))
        for looker in lookers - set(ahead):
            for one, other in itertools.combinations(sorted(marks & set(ahead)), 2):
                if (looker, one) in direction and (looker, other) in direction and looker not in found:
                    back = [(-x, -y) for x, y in (direction[looker, one], direction[looker, other])]
                    point = plainly_met(ahead[one][0], back[0], ahead[other][0], back[1])
                    if point is not None:
                        found[looker] = (point, number, (one, other))
        if len(found) == len(ahead):
            return found


def plainly_odd(survey):
    """The sights at odds, by the words of point 8."""
    found = plainly_found(survey)
    return sorted((looker, mark) for looker, mark, way in survey[1] if looker in found and mark in found
                  and not plainly_on(found[looker][0], way, found[mark][0]))


def random_room(chance, longest=6):
    """A room of whichever size, with few walls or many."""
    wide, high, walls = chance.randint(1, longest), chance.randint(1, longest), chance.choice((0, 1, 2, 4))
    rows = [[chance.choice("#" * walls + "." * 6) for _ in range(wide)] for _ in range(high)]
    rows[chance.randrange(high)][chance.randrange(wide)] = "."
    return tuple("".join(row) for row in rows)


def open_cells(room):
    return [(x, y) for x in range(len(room[0])) for y in range(len(room)) if room[y][x] == "."]


def part_within(start, end, least, greatest):
    """(from, to), parts of the way, 0 to 1: there what goes from start to end is within these, ends too; or None."""
    if start == end:
        return (0, 1) if least <= start <= greatest else None
    times = sorted(Fraction(bound - start, end - start) for bound in (least, greatest))
    low, high = max(times[0], 0), min(times[1], 1)
    return (low, high) if low <= high else None


@functools.cache
def plainly_seen(room, cell, other):
    """Whether the way between the middles has no point in a wall, by the parts of it that lie within its sides."""
    if cell == other:
        return False
    (a, b), (c, d) = [[2 * part + 1 for part in each] for each in (cell, other)]
    walls = [(x, y) for y, row in enumerate(room) for x, sign in enumerate(row) if sign == "#"]
    for x, y in walls:
        across, down = part_within(a, c, 2 * x, 2 * x + 2), part_within(b, d, 2 * y, 2 * y + 2)
        if across and down and max(across[0], down[0]) <= min(across[1], down[1]):
            return False
    return True
