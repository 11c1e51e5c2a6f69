"""Point 2: what a lane and ways are."""

import unittest

from sidinglane.errors import BadLane, BadWays
from sidinglane.lanes import need_lane, need_ways
from tests.things import Hostile, Liar, Yes, any_things


class Lanes(unittest.TestCase):
    def is_lane(self, lane):
        self.assertIs(need_lane(lane), True)

    def is_none(self, thing):
        with self.assertRaises(BadLane) as caught:
            need_lane(thing)
        self.assertIs(type(caught.exception), BadLane)

    def test_ordinary_lanes(self):
        self.is_lane([0, 1, 0, 2])
        self.is_lane([4, 3, 2, 1, 0])

    def test_lengths_from_1_to_8(self):
        for many in range(1, 9):
            for held in (0, 4):
                self.is_lane([held] * many)

    def test_lengths_beyond(self):
        for many in (0, 9, 10, 1000):
            for held in (0, 4):
                self.is_none([held] * many)

    def test_each_number_from_0_to_4_at_each_place(self):
        for place in range(8):
            for held in range(5):
                self.is_lane([0] * place + [held] + [4] * (7 - place))

    def test_numbers_beyond_at_each_place(self):
        for place in range(8):
            for held in (-1, 5, 6, -5, 10 ** 40, -(10 ** 40)):
                self.is_none([0] * place + [held] + [4] * (7 - place))

    def test_alone_a_number_beyond(self):
        for held in (-1, 5):
            self.is_none([held])

    def test_no_numbers_in_a_sidings_place(self):
        things = (
            True, False, 0.0, 1.0, 2.5, float("nan"), "1", "", b"1", None, [], [1], (), (1,), {}, 1j,
            Hostile(), Yes(), Liar(int), int,
        )
        for thing in things:
            self.is_none([thing])
            self.is_none([1, thing])
            self.is_none([thing, 1])
            self.is_none([0, 1, 2, 3, 4, 0, 1, thing])

    def test_lists_only(self):
        for thing in ((0, 1), (1,), {0: 1}, {0, 1}, range(3), "012", b"012", iter([0, 1]), 3, 0, 1):
            self.is_none(thing)

    def test_any_thing(self):
        for thing in any_things():
            self.is_none(thing)
        for thing in ("right", ["right"], ("lane", 0), (("lane", 0),), ("go", 0)):
            self.is_none(thing)


class Ways(unittest.TestCase):
    def are_ways(self, ways):
        self.assertIs(need_ways(ways), True)

    def are_none(self, thing):
        with self.assertRaises(BadWays) as caught:
            need_ways(thing)
        self.assertIs(type(caught.exception), BadWays)

    def test_ordinary_ways(self):
        self.are_ways(["right"])
        self.are_ways(["left"])
        self.are_ways(["right", "left", "left"])

    def test_from_1_to_6_texts(self):
        for many in range(1, 7):
            for way in ("right", "left"):
                self.are_ways([way] * many)
                self.are_ways(["right", "left", "right", "left", "right", "left"][:many])

    def test_none_and_seven_and_more(self):
        for many in (0, 7, 8, 1000):
            for way in ("right", "left"):
                self.are_none([way] * many)

    def test_a_text_put_together_by_a_run(self):
        self.are_ways(["".join(["ri", "ght"]), "".join(["le", "ft"])])

    def test_other_texts(self):
        texts = (
            "", "Right", "LEFT", "right ", " left", "rights", "lef", "r", "l", "up", "out", "lane",
            "right\n", "righ\u0165", "rightleft",
        )
        for text in texts:
            self.are_none([text])
            self.are_none(["right", text])
            self.are_none([text, "left"])
            self.are_none(["left", "right", "left", "right", "left", text])

    def test_no_texts_in_a_ways_place(self):
        things = (
            None, True, False, 0, 1, -1, 1.0, b"right", b"left", ["right"], ("left",), {"right": 1}, [],
            Hostile(), Yes(), Liar(str), str,
        )
        for thing in things:
            self.are_none([thing])
            self.are_none(["right", thing])
            self.are_none([thing, "left"])

    def test_lists_only(self):
        things = (
            ("right", "left"), ("right",), {"right": "left"}, {"right"}, "right", "left", b"right", iter(["right"]),
        )
        for thing in things:
            self.are_none(thing)

    def test_any_thing(self):
        for thing in any_things():
            self.are_none(thing)
        for thing in ([0], [1, 2], ("lane", 0), (("lane", 0),), ("go", 0), 0, 1):
            self.are_none(thing)


class Names(unittest.TestCase):
    def test_the_functions_are_defined_in_this_file(self):
        for function in (need_lane, need_ways):
            self.assertEqual(function.__module__, "sidinglane.lanes")

    def test_the_arguments_have_their_names(self):
        self.assertIs(need_lane(lane=[0]), True)
        self.assertIs(need_ways(ways=["left"]), True)


if __name__ == "__main__":
    unittest.main()
