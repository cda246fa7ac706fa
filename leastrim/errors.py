"""The refusals: one class for each kind of thing that may be handed in wrong."""


class RimError(ValueError):
    """Any refusal of this package."""


class BadWeb(RimError):
    """What was handed in is no web."""


class BadPlaces(RimError):
    """What was handed in are no chosen places."""


class BadKind(RimError):
    """What was handed in is no kind."""


class BadCount(RimError):
    """What was handed in is no count of places."""


class BadNumber(RimError):
    """What was handed in is no number of a least list."""


class BadWays(RimError):
    """What was handed in is no number of ways of a cube."""


class BadWay(RimError):
    """What was handed in is no way of the cube."""


class BadCells(RimError):
    """What was handed in are no cells of the floor."""


class BadTree(RimError):
    """What was handed in is no tree."""
