"""What a lane, ways and a stand are; anything else is refused."""

from sidinglane.errors import BadLane, BadStand, BadWays

MOST_PLACES = 8
MOST_HELD = 4
MOST_TRAINS = 6

# The kinds are asked for by type(x) and not by isinstance: True is an int to
# isinstance, and a thing may lie about its class or fail when it is compared.


def is_number(thing, least, most):
    """Whether a thing is a whole number from least to most."""
    return type(thing) is int and least <= thing <= most


def is_way(thing):
    """Whether a thing is a text that names a way."""
    return type(thing) is str and thing in ("right", "left")


def need_lane(lane):
    """True; BadLane where it is no lane."""
    if type(lane) is not list or not 1 <= len(lane) <= MOST_PLACES:
        raise BadLane("a lane is a list of 1 to 8 numbers")
    if not all([is_number(held, 0, MOST_HELD) for held in lane]):
        raise BadLane("a siding holds a number of trains from 0 to 4")
    return True


def need_ways(ways):
    """True; BadWays where they are no ways."""
    if type(ways) is not list or not 1 <= len(ways) <= MOST_TRAINS:
        raise BadWays("ways are a list of 1 to 6 texts")
    if not all([is_way(way) for way in ways]):
        raise BadWays("a way is right or left")
    return True


def need_stand(lane, ways, stand):
    """True; BadLane, BadWays or BadStand for the first of the three that is none."""
    need_lane(lane)
    need_ways(ways)
    need_spots(lane, stand)
    if len(stand) != len(ways):
        raise BadStand("a stand has a spot for each train")
    return True


def need_spots(lane, stand):
    """True; BadStand where it is no stand of this lane, whatever the ways of its trains are."""
    if type(stand) is not tuple or not 1 <= len(stand) <= MOST_TRAINS:
        raise BadStand("a stand is a tuple of 1 to 6 spots")
    if not all([is_spot(lane, spot) for spot in stand]):
        raise BadStand("a spot is a place of the lane, or of a siding, or out")
    if any([stand.count(spot) > most_at(lane, spot) for spot in stand]):
        raise BadStand("more trains are at one spot than it holds")
    return True


def is_spot(lane, thing):
    """Whether a thing is a spot of a train on this lane, in a siding or out."""
    if type(thing) is not tuple or len(thing) not in (1, 2):
        return False
    word = thing[0]
    if type(word) is not str:
        return False
    if len(thing) == 1:
        return word == "out"
    return word in ("lane", "side") and is_number(thing[1], 0, len(lane) - 1)


def most_at(lane, spot):
    """How many trains a spot holds."""
    if spot[0] == "side":
        return lane[spot[1]]
    # Beyond the lane's end there is room for all trains together.
    return 1 if spot[0] == "lane" else MOST_TRAINS
