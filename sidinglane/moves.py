"""Which moves are allowed, the stand behind one, and what is left to go."""

from sidinglane.errors import NoMove
from sidinglane.lanes import is_number, most_at, need_stand


def left_to_go(lane, ways, stand):
    """How many times all trains together have to go on until all are out."""
    need_stand(lane, ways, stand)
    return sum([steps_left(lane, way, spot) for way, spot in zip(ways, stand)])


def steps_left(lane, way, spot):
    """How many times one train has to go on until it is out."""
    if spot[0] == "out":
        return 0
    return len(lane) - spot[1] if way == "right" else spot[1] + 1


def allowed(lane, ways, stand):
    """All moves that are allowed, by the trains' numbers, a go ahead of an aside."""
    need_stand(lane, ways, stand)
    return [move for train in range(len(stand)) for move, _ in choices(lane, ways, stand, train)]


def behind(lane, ways, stand, move):
    """The stand behind a move; NoMove where it is no move that is allowed."""
    need_stand(lane, ways, stand)
    if not is_move(move, len(stand)):
        raise NoMove("a move is a tuple of a word and a train's number")
    train = move[1]
    for choice, spot in choices(lane, ways, stand, train):
        if choice == move:
            return stand[:train] + (spot,) + stand[train + 1:]
    raise NoMove("this move is not allowed in this stand")


def is_move(thing, trains):
    """Whether a thing is a tuple of a text and the number of one of so many trains."""
    if type(thing) is not tuple or len(thing) != 2:
        return False
    word, train = thing
    return type(word) is str and is_number(train, 0, trains - 1)


def choices(lane, ways, stand, train):
    """The allowed moves of one train, each with the spot that it leads to, a go ahead of an aside."""
    found = tries(lane, ways[train], stand[train], train)
    return [(move, spot) for move, spot in found if has_room(lane, stand, spot)]


def tries(lane, way, spot, train):
    """The moves of one train from a spot, each with the spot that it leads to, be there room or not."""
    if spot[0] == "out":
        return []
    word, place = spot
    ahead = spot_ahead(lane, way, place)
    if word == "side":
        return [(("on", train), ahead)]
    return [(("go", train), ahead), (("aside", train), ("side", place))]


def spot_ahead(lane, way, place):
    """The spot to which a train of this way goes on from a place."""
    ahead = place + 1 if way == "right" else place - 1
    return ("lane", ahead) if 0 <= ahead < len(lane) else ("out",)


def has_room(lane, stand, spot):
    """Whether a spot holds one more train."""
    return stand.count(spot) < most_at(lane, spot)
