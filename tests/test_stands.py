"""Point 3: what a stand is."""

import itertools
import unittest

from sidinglane.errors import BadStand
from sidinglane.lanes import need_stand
from tests.things import SMALL_LANES, Hostile, Liar, Yes, any_things, is_stand_by_hand, small_trains, spots


class Stands(unittest.TestCase):
    def is_stand(self, lane, ways, stand):
        self.assertIs(need_stand(lane, ways, stand), True)

    def is_none(self, lane, ways, thing):
        with self.assertRaises(BadStand) as caught:
            need_stand(lane, ways, thing)
        self.assertIs(type(caught.exception), BadStand)

    def test_each_kind_of_spot_at_the_first_and_the_last_place(self):
        for many in (1, 2, 8):
            for place in (0, many - 1):
                for way in ("right", "left"):
                    self.is_stand([1] * many, [way], (("lane", place),))
                    self.is_stand([1] * many, [way], (("side", place),))
                    self.is_stand([0] * many, [way], (("lane", place),))
        self.is_stand([0], ["right"], (("out",),))
        self.is_stand([4] * 8, ["left"], (("out",),))

    def test_each_place_between(self):
        for place in range(8):
            self.is_stand([4] * 8, ["right", "left"], (("lane", place), ("side", place)))

    def test_ordinary_stands(self):
        lane = [0, 2, 0, 1]
        self.is_stand(lane, ["right", "left"], (("lane", 0), ("lane", 3)))
        self.is_stand(lane, ["right", "left", "left"], (("side", 1), ("side", 1), ("lane", 1)))
        self.is_stand(lane, ["right", "left", "left"], (("out",), ("out",), ("side", 3)))

    def test_a_text_and_a_tuple_put_together_by_a_run(self):
        lane = "".join(["la", "ne"])
        out = tuple(["".join(["o", "ut"])])
        self.is_stand([0, 0], ["right", "left"], tuple([tuple([lane, len("x")]), out]))

    def test_places_that_the_lane_does_not_have(self):
        for many in (1, 2, 8):
            for place in (-1, -2, -many, many, many + 1, 10 ** 40, -(10 ** 40)):
                self.is_none([4] * many, ["right"], (("lane", place),))
                self.is_none([4] * many, ["right"], (("side", place),))
                self.is_none([4] * many, ["right", "left"], (("lane", 0), ("lane", place)))
                self.is_none([4] * many, ["right", "left"], (("side", place), ("out",)))

    def test_spots_of_another_length(self):
        others = (
            (), ("lane",), ("side",), ("out", 0), ("out", 1), ("out", None), ("out", "out"), ("lane", 0, 0),
            ("side", 0, 1), ("out", 0, 0), (0,), ("lane", 0, None), ("lane", 0) * 4,
        )
        self.each_is_no_spot(others)

    def test_spots_of_another_word(self):
        others = (
            ("Lane", 0), ("lane ", 0), ("", 0), ("sid", 0), ("sides", 0), ("aside", 0), ("go", 0), ("on", 0),
            ("Out",), ("out ",), ("",), ("ou",), ("in",), ("lan\u0113", 0), ("laneside", 0), ("lane\n", 0),
        )
        self.each_is_no_spot(others)

    def test_words_that_are_no_texts(self):
        for thing in (None, 0, True, b"lane", b"out", ["lane"], ("lane",), ("out",), Hostile(), Yes(), Liar(str)):
            self.each_is_no_spot(((thing, 0), (thing,)))

    def test_places_that_are_no_numbers(self):
        things = (
            True, False, None, 0.0, 1.0, "0", "", b"0", [], [0], (), (0,), {}, 0j, Hostile(), Yes(), Liar(int), int,
        )
        for thing in things:
            self.each_is_no_spot((("lane", thing), ("side", thing)))

    def test_spots_of_another_kind(self):
        others = (
            ["lane", 0], ["side", 0], ["out"], "lane", "out", "l0", None, 0, 1, True, b"out", {"lane": 0},
            {"out"}, {"out": True}, iter(("lane", 0)), [], (("out",),), (("lane", 0),), Hostile(), Yes(), Liar(tuple),
        )
        self.each_is_no_spot(others)

    def each_is_no_spot(self, things):
        for thing in things:
            self.is_none([4, 4], ["right"], (thing,))
            self.is_none([4, 4], ["right", "left"], (("out",), thing))
            self.is_none([4, 4], ["right", "left"], (thing, ("lane", 1)))
            self.is_none([4, 4], ["right"] * 6, (("side", 0),) * 2 + (thing,) + (("side", 1),) * 3)

    def test_another_length_than_the_ways(self):
        out = ("out",)
        for many in range(1, 7):
            for other in range(0, 9):
                ways = (["right", "left"] * 3)[:many]
                if other == many:
                    self.is_stand([0], ways, (out,) * other)
                else:
                    self.is_none([0], ways, (out,) * other)

    def test_no_tuples(self):
        lane, ways = [1, 1], ["right", "left"]
        spot, other = ("lane", 0), ("out",)
        self.is_stand(lane, ways, (spot, other))
        for thing in ([spot, other], {spot: 0, other: 1}, {spot, other}, iter((spot, other)), "ab", None, 2):
            self.is_none(lane, ways, thing)
        self.is_none([1], ["right"], ["out"])
        self.is_none([1], ["right"], ("out",))
        self.is_none([1], ["right", "left"], ("lane", 0))

    def test_any_thing(self):
        for thing in any_things():
            self.is_none([1, 1], ["right"], thing)
            self.is_none([1, 1], ["right", "left"], (thing, ("out",)))
            self.is_none([1, 1], ["right", "left"], (("out",), thing))

    def test_two_trains_at_one_place_of_the_lane(self):
        for many in (1, 2, 8):
            for place in (0, many - 1):
                at = ("lane", place)
                self.is_none([4] * many, ["right", "left"], (at, at))
                self.is_none([4] * many, ["right", "right"], (at, at))
                self.is_none([4] * many, ["left", "left", "left"], (at, ("out",), at))
                self.is_none([4] * many, ["left", "left", "left"], (("side", 0), at, at))

    def test_as_many_in_a_siding_as_it_holds_and_one_more(self):
        for held in range(5):
            for lane, place in (([held], 0), ([4, held], 1), ([held, 0], 0), ([0] * 7 + [held], 7)):
                side = ("side", place)
                if held:
                    self.is_stand(lane, ["right"] * held, (side,) * held)
                    self.is_stand(lane, ["left"] * (held + 1), (side,) * held + (("lane", place),))
                self.is_none(lane, ["right"] * (held + 1), (side,) * (held + 1))
                self.is_none(lane, ["left"] * (held + 2), (side,) + (("out",),) + (side,) * held)

    def test_each_siding_is_counted_for_itself(self):
        ways = ["right"] * 6
        self.is_stand([1, 2, 3], ways, (("side", 0), ("side", 1), ("side", 1)) + (("side", 2),) * 3)
        self.is_none([1, 2, 3], ways, (("side", 0), ("side", 0), ("side", 1)) + (("side", 2),) * 3)
        self.is_none([1, 2, 2], ways, (("side", 0), ("side", 1), ("side", 1)) + (("side", 2),) * 3)

    def test_a_siding_and_its_place_of_the_lane_are_two_spots(self):
        self.is_stand([1], ["right", "left"], (("lane", 0), ("side", 0)))
        self.is_none([0], ["right", "left"], (("lane", 0), ("side", 0)))

    def test_all_trains_may_be_out(self):
        for many in range(1, 7):
            self.is_stand([0], ["right"] * many, (("out",),) * many)

    def test_all_small_ones(self):
        for lane in SMALL_LANES:
            for ways in small_trains():
                for stand in itertools.product(spots(lane), repeat=len(ways)):
                    if is_stand_by_hand(lane, stand):
                        self.is_stand(lane, ways, stand)
                    else:
                        self.is_none(lane, ways, stand)


class Names(unittest.TestCase):
    def test_the_function_is_defined_in_this_file(self):
        self.assertEqual(need_stand.__module__, "sidinglane.lanes")

    def test_the_arguments_have_their_names(self):
        self.assertIs(need_stand(lane=[0], ways=["left"], stand=(("out",),)), True)


if __name__ == "__main__":
    unittest.main()
