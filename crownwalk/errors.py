"""The refusals."""


class WalkError(ValueError):
    """Any refusal."""


class TooMany(WalkError):
    """A game would have no places, or more than it may have."""


class Stuck(WalkError):
    """A place has no way."""


class NoPlace(WalkError):
    """A way leads to no place of the game."""


class Twice(WalkError):
    """A way of a place stands twice."""


class Lost(WalkError):
    """A plan doesn't win."""


class Loose(WalkError):
    """A name in a wish has no least or most of its own round it."""


class NoNote(WalkError):
    """A text isn't written as a game is."""
