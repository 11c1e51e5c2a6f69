"""The refusals."""


class LaneError(ValueError):
    """Any refusal."""


class BadLane(LaneError):
    """What was handed in as a lane is none."""


class BadWays(LaneError):
    """What was handed in as ways is none."""


class BadStand(LaneError):
    """What was handed in as a stand is none of this lane and its trains."""


class NoMove(LaneError):
    """What was handed in as a move is none that is allowed."""


class NoPlace(LaneError):
    """What was handed in as a place is none whose siding may get longer."""
