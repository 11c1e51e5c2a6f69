"""A lane turned round: its places in the other order, its trains the other way."""

from sidinglane.lanes import need_lane, need_spots, need_ways


def turned_lane(lane):
    """The lane with its places in the other order."""
    need_lane(lane)
    return lane[::-1]


def turned_ways(ways):
    """The ways of the same trains, each the other one."""
    need_ways(ways)
    return ["left" if way == "right" else "right" for way in ways]


def turned_stand(lane, stand):
    """A stand of this lane with each train at its own place in the other order."""
    need_lane(lane)
    need_spots(lane, stand)
    return tuple([turned_spot(lane, spot) for spot in stand])


def turned_spot(lane, spot):
    """A spot of this lane in the other order of its places."""
    if spot[0] == "out":
        return spot
    word, place = spot
    return (word, len(lane) - 1 - place)
