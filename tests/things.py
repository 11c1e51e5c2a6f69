"""Things of any kind, and all small stands, for the tests."""

import itertools


def fails(self, *told):
    raise RuntimeError("a refused thing was asked for something")


class Hostile:
    """A thing that fails at whatever it is asked."""

    __eq__ = __ne__ = __lt__ = __le__ = __gt__ = __ge__ = fails
    __hash__ = __len__ = __iter__ = __getitem__ = __contains__ = fails
    __bool__ = __repr__ = __str__ = __int__ = __index__ = __add__ = fails


class Yes:
    """A thing that is equal to everything."""

    def __eq__(self, other):
        return True

    def __ne__(self, other):
        return False

    __hash__ = None


class Liar:
    """A thing that says that its class is another one."""

    def __init__(self, kind):
        self.kind = kind

    @property
    def __class__(self):
        return self.__dict__["kind"]


def endless():
    """A list that contains itself."""
    rows = []
    rows.append(rows)
    return rows


def any_things():
    """Things of many kinds: none is a lane, ways, a stand, a move, a spot or a number from 0 to 8."""
    return [
        None, True, False, -1, 10 ** 40, 0.0, 1.0, 1.5, float("nan"), 1j,
        "", "x", "0", "12", b"", b"right", bytearray(b"left"),
        [], (), {}, set(), frozenset(), [None], (None,), [[1]], ((),), endless(), ([],),
        {"lane": 0}, {0: 1}, {"right"}, range(3), iter([1]), (n for n in [1]), zip([1], [1]),
        object(), int, list, tuple, str, len, lambda: 1, ValueError("x"), NotImplemented, ...,
        Hostile(), Yes(), Liar(list), Liar(tuple), Liar(str), Liar(int),
        [Hostile()], (Hostile(),), [Yes()], (Yes(),), [Liar(int)], [Liar(str)], (Liar(tuple),),
    ]


def spots(lane):
    """All spots that a train may have on a lane, room or not."""
    places = range(len(lane))
    return [("lane", p) for p in places] + [("side", p) for p in places] + [("out",)]


def is_stand_by_hand(lane, stand):
    """Whether spots of a lane are a stand of it, told apart from the program's own way."""
    on_lane = [spot[1] for spot in stand if spot[0] == "lane"]
    beside = [spot[1] for spot in stand if spot[0] == "side"]
    once = len(on_lane) == len(set(on_lane))
    return once and all(beside.count(p) <= lane[p] for p in range(len(lane)))


SMALL_LANES = ([0], [1], [2], [0, 0], [1, 0], [0, 2], [0, 1, 0], [1, 0, 2])


def small_trains():
    """All ways of up to three trains."""
    for many in (1, 2, 3):
        for ways in itertools.product(("right", "left"), repeat=many):
            yield list(ways)


def small_stands():
    """Triples of a lane, ways and a stand: all stands of some small lanes."""
    for lane in SMALL_LANES:
        for ways in small_trains():
            for stand in itertools.product(spots(lane), repeat=len(ways)):
                if is_stand_by_hand(lane, stand):
                    yield lane, ways, stand
