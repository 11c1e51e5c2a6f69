"""Reckonings for the tests, apart from the program's own way: graphs of all stands, rows walked move by move."""

import itertools

from sidinglane.moves import allowed, behind
from tests.things import SMALL_LANES, is_stand_by_hand, small_trains, spots


def all_stands(lane, trains):
    """All stands of so many trains on a lane."""
    return [s for s in itertools.product(spots(lane), repeat=trains) if is_stand_by_hand(lane, s)]


def graph(lane, ways):
    """For each stand of a lane and its trains: the stands to which one move leads."""
    return {
        stand: [behind(lane, ways, stand, move) for move in allowed(lane, ways, stand)]
        for stand in all_stands(lane, len(ways))
    }


def small_graphs():
    """Triples of a lane, ways and their graph, for small lanes and up to three trains."""
    for lane in SMALL_LANES:
        for ways in small_trains():
            yield lane, ways, graph(lane, ways)


def reached_by_hand(links):
    """For each stand of a graph: the set of those to which rows lead from it, with itself."""
    found = {}

    def of(stand):
        if stand not in found:
            found[stand] = {stand}.union(*(of(then) for then in links[stand]))
        return found[stand]

    for stand in links:
        of(stand)
    return found


def prices_by_hand(links):
    """For each open stand of a graph its price: those with all out, then those one move ahead of these, and so on."""
    found = {stand: 0 for stand in links if all(spot == ("out",) for spot in stand)}
    many = -1
    while many < len(found):
        many = len(found)
        cost = max(found.values()) + 1
        more = [stand for stand in links if stand not in found and any(then in found for then in links[stand])]
        found.update({stand: cost for stand in more})
    return found


def walked(lane, ways, stand, row):
    """The stand behind a row, each of whose moves is asked for among the allowed ones first."""
    for move in row:
        if move not in allowed(lane, ways, stand):
            raise AssertionError(f"{move} is not allowed in {stand}")
        stand = behind(lane, ways, stand, move)
    return stand


def asides(row):
    """How many moves of a row are asides."""
    return len([move for move in row if move[0] == "aside"])
