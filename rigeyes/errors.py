"""The refusals."""


class RigError(ValueError):
    """Any refusal."""


class NoPlaces(RigError):
    """These are no places of lookers."""


class NoLooker(RigError):
    """This is no looker of the rig."""


class NoMoment(RigError):
    """This is no moment of a clock."""


class NoName(RigError):
    """This is no name, or none that was told of."""


class NoWay(RigError):
    """This is no direction."""


class Twice(RigError):
    """This was told before."""
