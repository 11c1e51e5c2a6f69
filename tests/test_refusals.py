"""The order in which a lane, ways, a stand and a move are refused, for each function that takes them."""

import unittest

from sidinglane.errors import BadLane, BadStand, BadWays, NoMove
from sidinglane.lanes import need_lane, need_stand, need_ways
from sidinglane.moves import allowed, behind, left_to_go
from sidinglane.search import closed, least_row, prices, reached
from sidinglane.turning import turned_lane, turned_stand, turned_ways
from sidinglane.yard import Yard
from tests.things import Hostile, Liar, any_things

LANE = [0, 1]
WAYS = ["right", "left"]
STAND = (("lane", 0), ("lane", 1))
MOVE = ("aside", 1)

BAD_LANES = ([], [0] * 9, [5], [-1, 0], [True], ["1"], (0, 1), None, Hostile(), Liar(list), "01")
BAD_WAYS = ([], ["right"] * 7, ["up", "left"], ["right", None], ("right", "left"), None, Hostile(), Liar(list), "right")
# Too few trains and too many, for these ways alone.
OF_OTHER_WAYS = ((("out",),), (("out",),) * 3)
BAD_STANDS = OF_OTHER_WAYS + (
    (), (("lane", 0), ("lane", 0)), (("side", 0), ("out",)), (("lane", 2), ("out",)),
    [("lane", 0), ("lane", 1)], (("lane", True), ("out",)), None, Hostile(), Liar(tuple), "ab",
)
NO_MOVES = (
    ("go", 0), ("go", 2), ("go", -1), ("aside", 0), ("on", 0), ("go", True), ["aside", 1], None, Hostile(), Liar(tuple),
)

# Each of them takes a lane, ways and a stand; behind gets a move that is allowed.
TAKE_THREE = (
    need_stand, left_to_go, allowed, lambda lane, ways, stand: behind(lane, ways, stand, MOVE),
    reached, prices, least_row, closed, Yard,
)


class Order(unittest.TestCase):
    def refuses(self, kind, function, *told):
        with self.assertRaises(kind) as caught:
            function(*told)
        self.assertIs(type(caught.exception), kind)

    def test_nothing_wrong(self):
        for function in TAKE_THREE:
            function(LANE, WAYS, STAND)

    def test_one_handed_in_by_itself(self):
        for lane in BAD_LANES:
            self.refuses(BadLane, need_lane, lane)
            self.refuses(BadLane, turned_lane, lane)
        for ways in BAD_WAYS:
            self.refuses(BadWays, need_ways, ways)
            self.refuses(BadWays, turned_ways, ways)

    def test_a_lane_and_a_stand_without_ways(self):
        turned_stand(LANE, STAND)
        stands = BAD_STANDS[len(OF_OTHER_WAYS):]
        for lane in BAD_LANES:
            self.refuses(BadLane, turned_stand, lane, STAND)
        for stand in stands:
            self.refuses(BadStand, turned_stand, LANE, stand)
            for lane in BAD_LANES:
                self.refuses(BadLane, turned_stand, lane, stand)

    def test_one_wrong(self):
        for function in TAKE_THREE:
            for lane in BAD_LANES:
                self.refuses(BadLane, function, lane, WAYS, STAND)
            for ways in BAD_WAYS:
                self.refuses(BadWays, function, LANE, ways, STAND)
            for stand in BAD_STANDS:
                self.refuses(BadStand, function, LANE, WAYS, stand)

    def test_two_wrong(self):
        for function in TAKE_THREE:
            for lane in BAD_LANES:
                for ways in BAD_WAYS:
                    self.refuses(BadLane, function, lane, ways, STAND)
                for stand in BAD_STANDS:
                    self.refuses(BadLane, function, lane, WAYS, stand)
            for ways in BAD_WAYS:
                for stand in BAD_STANDS:
                    self.refuses(BadWays, function, LANE, ways, stand)

    def test_all_wrong(self):
        for function in TAKE_THREE:
            for lane in BAD_LANES:
                for ways in BAD_WAYS:
                    for stand in BAD_STANDS:
                        self.refuses(BadLane, function, lane, ways, stand)

    def test_no_move_comes_behind_these(self):
        for move in NO_MOVES:
            self.refuses(NoMove, behind, LANE, WAYS, STAND, move)
            for lane in BAD_LANES:
                self.refuses(BadLane, behind, lane, WAYS, STAND, move)
                self.refuses(BadLane, behind, lane, BAD_WAYS[0], BAD_STANDS[0], move)
            for ways in BAD_WAYS:
                self.refuses(BadWays, behind, LANE, ways, STAND, move)
                self.refuses(BadWays, behind, LANE, ways, BAD_STANDS[0], move)
            for stand in BAD_STANDS:
                self.refuses(BadStand, behind, LANE, WAYS, stand, move)

    def test_any_thing_in_each_place(self):
        for function in TAKE_THREE:
            for thing in any_things():
                self.refuses(BadLane, function, thing, WAYS, STAND)
                self.refuses(BadLane, function, thing, thing, thing)
                self.refuses(BadWays, function, LANE, thing, STAND)
                self.refuses(BadWays, function, LANE, thing, thing)
                self.refuses(BadStand, function, LANE, WAYS, thing)
        for thing in any_things():
            self.refuses(NoMove, behind, LANE, WAYS, STAND, thing)
            self.refuses(BadLane, behind, thing, thing, thing, thing)
            self.refuses(BadWays, behind, LANE, thing, thing, thing)
            self.refuses(BadStand, behind, LANE, WAYS, thing, thing)

    def test_what_stands_in_the_others_place(self):
        self.refuses(BadLane, need_stand, WAYS, LANE, STAND)
        self.refuses(BadLane, need_stand, STAND, WAYS, LANE)
        self.refuses(BadWays, need_stand, LANE, LANE, STAND)
        self.refuses(BadWays, need_stand, LANE, STAND, WAYS)
        self.refuses(BadStand, need_stand, LANE, WAYS, LANE)
        self.refuses(NoMove, behind, LANE, WAYS, STAND, STAND)


if __name__ == "__main__":
    unittest.main()
