"""A rig: lookers with clocks, the sights that they tell, and where each mark was, and when."""

from rigeyes.clocks import is_moment
from rigeyes.errors import NoLooker, NoMoment, NoName, NoPlaces, NoWay, Twice
from rigeyes.rays import is_direction, is_on
from rigeyes.surveys import first_met, is_place
from rigeyes.things import is_name, is_rising, is_row
from rigeyes.whole import is_within

MOST_PLACES = 6
GREATEST_OFFSET = 1000


class Rig:
    """Lookers at points, each with a clock that is off by its offset, and all sights that were told."""

    def __init__(self, places):
        """A rig of these places, tuples (looker, (x, y), offset), of which no sight was told."""
        if not are_places(places):
            raise NoPlaces("these are no places of lookers")
        self.stands = {looker: (((x, 1), (y, 1)), offset) for looker, (x, y), offset in places}
        # {(mark, moment, looker): way}, the moment being that of the clock and the offset together.
        self.sights = {}

    def tell(self, looker, moment, mark, way):
        """Hear that at the moment of its clock the looker sees the mark along way."""
        # What is no name may be no key either.
        if not is_name(looker) or looker not in self.stands:
            raise NoLooker("this is no looker of the rig")
        if not is_moment(moment):
            raise NoMoment("this is no moment of a clock")
        if not is_name(mark):
            raise NoName("this is no name")
        if not is_direction(way):
            raise NoWay("this is no direction")
        sight = (mark, moment + self.stands[looker][1], looker)
        if sight in self.sights:
            raise Twice("this looker told of this mark at this moment before")
        self.sights[sight] = way

    def fixes(self, mark):
        """A rising list of (moment, point): where the mark was, and when."""
        return [(moment, point) for moment, point, rays in self.met(mark)]

    def odd(self, mark):
        """A rising list of (moment, looker): the sights of the mark that are at odds with its fixes."""
        return [
            (moment, looker)
            for moment, point, rays in self.met(mark)
            for looker, way in rays
            if not is_on(self.stands[looker][0], way, point)
        ]

    def marks(self):
        """A rising list of all marks of which sights were told."""
        return sorted({mark for mark, moment, looker in self.sights})

    def met(self, mark):
        """A rising list of (moment, point, rays), for each moment at which two rays to the mark meet."""
        rows = []
        for moment, rays in self.rays_by_moment(mark).items():
            point, two = first_met(rays, self.stands)
            if point is not None:
                rows.append((moment, point, rays))
        return rows

    def rays_by_moment(self, mark):
        """{moment: [(looker, way)]} of all sights of the mark, moments and lookers rising."""
        rays = {}
        for seen, moment, looker in sorted([sight for sight in self.sights if sight[0] == mark]):
            rays.setdefault(moment, []).append((looker, self.sights[(seen, moment, looker)]))
        if rays == {}:
            raise NoName("no sight told of this")
        return rays

    def __len__(self):
        """How many sights were told."""
        return len(self.sights)

    def __eq__(self, other):
        """Whether other, which is anything, is a rig of the same lookers to which the same sights were told."""
        return isinstance(other, Rig) and self.stands == other.stands and self.sights == other.sights


def are_places(thing):
    """Whether thing, which is anything, is the places of a rig."""
    if not isinstance(thing, tuple) or not 1 <= len(thing) <= MOST_PLACES:
        return False
    if not all([is_standing(each) for each in thing]):
        return False
    # As names are unlike, places rise just where their names do.
    return is_rising([looker for looker, point, offset in thing])


def is_standing(thing):
    """Whether thing, which is anything, is (looker, point, offset)."""
    if not is_row(thing, 3) or not is_name(thing[0]) or not is_place(thing[1]):
        return False
    return is_within(thing[2], -GREATEST_OFFSET, GREATEST_OFFSET)
