"""Point 8: a lane, ways and a stand turned round."""

import itertools
import unittest

from sidinglane.errors import BadLane, BadStand, BadWays
from sidinglane.lanes import need_stand
from sidinglane.moves import allowed, behind, left_to_go
from sidinglane.search import closed, least_row, prices, reached
from sidinglane.turning import turned_lane, turned_stand, turned_ways
from tests.reckoning import small_graphs, walked
from tests.things import Hostile, Liar, Yes, any_things, small_stands

OUT = ("out",)

LONGER = (
    ([0, 1, 0, 2, 0], ["right", "left", "left"], (("lane", 0), ("lane", 3), ("lane", 4))),
    ([0, 2, 1, 0], ["right", "right", "left", "left"], (("lane", 0), ("side", 1), ("lane", 2), OUT)),
    ([0, 0, 0, 1], ["left", "right", "right"], (("lane", 2), ("lane", 1), ("lane", 0))),
)


class Lane(unittest.TestCase):
    def test_its_places_in_the_other_order(self):
        self.assertEqual(turned_lane([0, 1, 2, 3, 4]), [4, 3, 2, 1, 0])
        self.assertEqual(turned_lane([0, 0, 1]), [1, 0, 0])
        self.assertEqual(turned_lane([4, 0, 0, 0, 0, 0, 1, 2]), [2, 1, 0, 0, 0, 0, 0, 4])

    def test_a_single_place_and_the_same_from_both_ends(self):
        for lane in ([0], [4], [1, 0, 1], [2] * 8):
            self.assertEqual(turned_lane(lane), lane)

    def test_twice_is_as_before(self):
        for many in (1, 2, 3, 4):
            for lane in itertools.product(range(3), repeat=many):
                self.assertEqual(turned_lane(turned_lane(list(lane))), list(lane))

    def test_a_list(self):
        self.assertIs(type(turned_lane([0, 1])), list)

    def test_what_is_no_lane(self):
        for thing in any_things() + [[0] * 9, [5], [-1], [0, True], (0, 1), ["right"], "01", [0, Hostile()]]:
            with self.assertRaises(BadLane) as caught:
                turned_lane(thing)
            self.assertIs(type(caught.exception), BadLane)


class Ways(unittest.TestCase):
    def test_each_the_other_one_by_the_trains_numbers(self):
        self.assertEqual(turned_ways(["right"]), ["left"])
        self.assertEqual(turned_ways(["left"]), ["right"])
        self.assertEqual(turned_ways(["right", "right", "left"]), ["left", "left", "right"])
        self.assertEqual(turned_ways(["left"] * 5 + ["right"]), ["right"] * 5 + ["left"])

    def test_twice_is_as_before(self):
        for many in range(1, 7):
            for ways in itertools.product(("right", "left"), repeat=many):
                self.assertEqual(turned_ways(turned_ways(list(ways))), list(ways))

    def test_a_list(self):
        self.assertIs(type(turned_ways(["left", "right"])), list)

    def test_what_are_no_ways(self):
        for thing in any_things() + [["right"] * 7, ["up"], ["right", None], ("left",), "left", [0], ["left", Yes()]]:
            with self.assertRaises(BadWays) as caught:
                turned_ways(thing)
            self.assertIs(type(caught.exception), BadWays)


class Stand(unittest.TestCase):
    def test_on_the_lane(self):
        self.assertEqual(turned_stand([0, 0, 0], (("lane", 0),)), (("lane", 2),))
        self.assertEqual(turned_stand([0, 0, 0], (("lane", 1),)), (("lane", 1),))
        self.assertEqual(turned_stand([0, 0, 0], (("lane", 2),)), (("lane", 0),))
        self.assertEqual(turned_stand([0] * 8, (("lane", 1),)), (("lane", 6),))
        self.assertEqual(turned_stand([0], (("lane", 0),)), (("lane", 0),))

    def test_in_a_siding(self):
        self.assertEqual(turned_stand([1, 0, 0, 0], (("side", 0),)), (("side", 3),))
        self.assertEqual(turned_stand([0, 0, 1], (("side", 2),)), (("side", 0),))
        self.assertEqual(turned_stand([4], (("side", 0),)), (("side", 0),))

    def test_out(self):
        for many in (1, 8):
            self.assertEqual(turned_stand([1] * many, (OUT,)), (OUT,))
        self.assertEqual(turned_stand([0], (OUT,) * 6), (OUT,) * 6)

    def test_each_train_keeps_its_number(self):
        self.assertEqual(
            turned_stand([0, 2, 0, 0], (("lane", 0), ("side", 1), OUT, ("lane", 3), ("side", 1))),
            (("lane", 3), ("side", 2), OUT, ("lane", 0), ("side", 2)),
        )

    def test_a_tuple_of_tuples(self):
        told = turned_stand([1, 0], (("lane", 0), ("side", 0), OUT))
        self.assertIs(type(told), tuple)
        for spot in told:
            self.assertIs(type(spot), tuple)

    def test_twice_is_as_before(self):
        for lane, ways, stand in small_stands():
            self.assertEqual(turned_stand(turned_lane(lane), turned_stand(lane, stand)), stand)

    def test_it_is_a_stand_of_the_turned_lane(self):
        for lane, ways, stand in small_stands():
            self.assertIs(need_stand(turned_lane(lane), turned_ways(ways), turned_stand(lane, stand)), True)

    def refuses(self, kind, lane, stand):
        with self.assertRaises(kind) as caught:
            turned_stand(lane, stand)
        self.assertIs(type(caught.exception), kind)

    def test_what_is_no_lane(self):
        for thing in any_things() + [[0] * 9, [5], (0, 1), "01"]:
            self.refuses(BadLane, thing, (OUT,))
            self.refuses(BadLane, thing, None)
            self.refuses(BadLane, thing, thing)

    def test_what_is_no_stand(self):
        for thing in any_things():
            self.refuses(BadStand, [4, 0], thing)
            self.refuses(BadStand, [4, 0], (thing,))
            self.refuses(BadStand, [4, 0], (OUT, thing))
            self.refuses(BadStand, [4, 0], (("lane", thing),))
        others = (
            [OUT], OUT, ("lane", 0), (["lane", 0],), (("Lane", 0),), (("out", 0),), (("lane",),), (("side", True),),
            (("lane", 0), OUT, ("lane", 0)), (("side", 0),) * 5, (("side", 1),), (OUT,) * 7, "", "ab", Liar(tuple),
        )
        for thing in others:
            self.refuses(BadStand, [4, 0], thing)

    def test_as_many_trains_as_there_may_be(self):
        for many in range(0, 9):
            if 1 <= many <= 6:
                self.assertEqual(turned_stand([4, 0], (OUT,) * many), (OUT,) * many)
            else:
                self.refuses(BadStand, [4, 0], (OUT,) * many)
        self.refuses(BadStand, [4, 0], (("side", 0),) * 4 + (OUT,) * 3)
        self.refuses(BadStand, [4, 4], (("side", 0),) * 4 + (("side", 1),) * 3)


class Stays(unittest.TestCase):
    def turned(self, lane, ways, stand):
        return turned_lane(lane), turned_ways(ways), turned_stand(lane, stand)

    def test_what_is_allowed(self):
        for lane, ways, stand in small_stands():
            other = self.turned(lane, ways, stand)
            moves = allowed(lane, ways, stand)
            self.assertEqual(allowed(*other), moves)
            self.assertEqual(left_to_go(*other), left_to_go(lane, ways, stand))
            for move in moves:
                self.assertEqual(behind(*other, move), turned_stand(lane, behind(lane, ways, stand, move)))

    def same_of_both(self, lane, ways, stand):
        other = self.turned(lane, ways, stand)
        there = {turned_stand(lane, then) for then in reached(lane, ways, stand)}
        self.assertEqual(set(reached(*other)), there)
        costs = {turned_stand(lane, then): price for then, price in prices(lane, ways, stand)}
        self.assertEqual(dict(prices(*other)), costs)
        self.assertEqual(closed(*other) is None, closed(lane, ways, stand) is None)
        row = least_row(lane, ways, stand)
        if row is None:
            self.assertIsNone(least_row(*other))
        else:
            self.assertEqual(len(least_row(*other)), len(row))
            self.assertEqual(walked(*other, row), (OUT,) * len(ways))

    def test_what_is_reached_and_the_prices_of_small_stands(self):
        for lane, ways, links in small_graphs():
            if len(ways) < 3:
                for stand in links:
                    self.same_of_both(lane, ways, stand)

    def test_what_is_reached_and_the_prices_of_longer_lanes(self):
        for lane, ways, stand in LONGER:
            self.same_of_both(lane, ways, stand)


class Names(unittest.TestCase):
    def test_the_functions_are_defined_in_this_file(self):
        for function in (turned_lane, turned_ways, turned_stand):
            self.assertEqual(function.__module__, "sidinglane.turning")

    def test_the_arguments_have_their_names(self):
        self.assertEqual(turned_lane(lane=[0, 1]), [1, 0])
        self.assertEqual(turned_ways(ways=["left"]), ["right"])
        self.assertEqual(turned_stand(lane=[0, 1], stand=(("side", 1),)), (("side", 0),))


if __name__ == "__main__":
    unittest.main()
