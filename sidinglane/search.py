"""To which stands rows lead, what these cost, a least row, and closed sets."""

from sidinglane.lanes import most_at, need_stand
from sidinglane.moves import tries


def reached(lane, ways, stand):
    """The stands to which rows lead from a stand, with itself, each once."""
    need_stand(lane, ways, stand)
    tracks = all_tracks(lane, ways)
    seen = {stand: True}
    waiting = [stand]
    while waiting:
        here = waiting.pop()
        for _, then in steps(tracks, here):
            if then not in seen:
                seen[then] = True
                waiting.append(then)
    return list(seen)


def prices(lane, ways, stand):
    """Pairs of a stand and its price, or None: one for each of the stands that are reached."""
    need_stand(lane, ways, stand)
    known = {}
    price_of(all_tracks(lane, ways), stand, known)
    return list(known.items())


def least_row(lane, ways, stand):
    """A row that brings all through by the fewest moves, or None where none does."""
    need_stand(lane, ways, stand)
    came = searched(lane, ways, stand)
    here = all_out(len(ways))
    if here not in came:
        return None
    row = []
    while came[here] is not None:
        move, here = came[here]
        row.append(move)
    return row[::-1]


def closed(lane, ways, stand):
    """A closed set that has this stand, or None where a row brings all through."""
    need_stand(lane, ways, stand)
    came = searched(lane, ways, stand)
    # A search that finds no end has gone to all stands that rows lead to, and these are a closed set.
    return None if all_out(len(ways)) in came else list(came)


def all_out(trains):
    """The stand in which all of so many trains are out."""
    return (("out",),) * trains


def all_tracks(lane, ways):
    """For each train, from each spot: its moves, each with the spot that it leads to and how many that holds."""
    # They are the same in all stands, so a search works them out only once.
    places = range(len(lane))
    spots = [(word, place) for word in ("lane", "side") for place in places] + [("out",)]
    return [{spot: tracks_from(lane, way, spot, train) for spot in spots} for train, way in enumerate(ways)]


def tracks_from(lane, way, spot, train):
    """The moves of one train from a spot, each with the spot that it leads to and how many that holds."""
    return [(move, then, most_at(lane, then)) for move, then in tries(lane, way, spot, train)]


def steps(tracks, stand):
    """Pairs of each move that is allowed in a stand and the stand behind it."""
    return [
        (move, stand[:train] + (then,) + stand[train + 1:])
        for train, spot in enumerate(stand)
        for move, then, most in tracks[train][spot]
        if stand.count(then) < most
    ]


def price_of(tracks, stand, known):
    """The price of a stand, or None; known gets it, and those of all stands that rows lead to from it."""
    if stand in known:
        return known[stand]
    # No train comes back to a spot that it left, so these calls go less than a hundred deep.
    found = [price_of(tracks, then, known) for _, then in steps(tracks, stand)]
    costs = [cost for cost in found if cost is not None]
    if stand == all_out(len(stand)):
        known[stand] = 0
    else:
        known[stand] = min(costs) + 1 if costs else None
    return known[stand]


def searched(lane, ways, stand):
    """How each stand was first come to, as a move and the stand ahead of it, until all trains are out."""
    # Rows that bring all through differ only by how many asides they have, so what a go or an on leads to
    # is looked at before what one more aside leads to.
    tracks = all_tracks(lane, ways)
    end = all_out(len(ways))
    came = {}
    waiting = [(stand, None)]
    while waiting:
        later = []
        while waiting:
            here, step = waiting.pop()
            if here in came:
                continue
            came[here] = step
            if here == end:
                return came
            for move, then in steps(tracks, here):
                if move[0] == "aside":
                    later.append((then, (move, here)))
                else:
                    waiting.append((then, (move, here)))
        waiting = later
    return came
