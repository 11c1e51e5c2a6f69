"""Point 5: what is left to go."""

import unittest

from sidinglane.moves import allowed, behind, left_to_go
from tests.things import small_stands

OUT = ("out",)


class OneTrain(unittest.TestCase):
    def test_to_the_right_on_the_lane_and_aside(self):
        for many in range(1, 9):
            for place in range(many):
                for word in ("lane", "side"):
                    self.assertEqual(left_to_go([1] * many, ["right"], ((word, place),)), many - place)

    def test_to_the_left_on_the_lane_and_aside(self):
        for many in range(1, 9):
            for place in range(many):
                for word in ("lane", "side"):
                    self.assertEqual(left_to_go([1] * many, ["left"], ((word, place),)), place + 1)

    def test_at_either_end(self):
        self.assertEqual(left_to_go([0] * 8, ["right"], (("lane", 0),)), 8)
        self.assertEqual(left_to_go([0] * 8, ["right"], (("lane", 7),)), 1)
        self.assertEqual(left_to_go([0] * 8, ["left"], (("lane", 0),)), 1)
        self.assertEqual(left_to_go([0] * 8, ["left"], (("lane", 7),)), 8)

    def test_out(self):
        for many in (1, 8):
            for way in ("right", "left"):
                self.assertEqual(left_to_go([4] * many, [way], (OUT,)), 0)


class Several(unittest.TestCase):
    def test_of_both_ways_on_the_lane_aside_and_out(self):
        ways = ["right", "left", "right", "left", "right", "left"]
        stand = (("lane", 1), ("lane", 3), ("side", 2), ("side", 2), OUT, OUT)
        self.assertEqual(left_to_go([0, 0, 2, 0, 0], ways, stand), 4 + 4 + 3 + 3)

    def test_all_out(self):
        self.assertEqual(left_to_go([4] * 8, ["right", "left"] * 3, (OUT,) * 6), 0)

    def test_in_one_siding(self):
        self.assertEqual(left_to_go([4, 0, 0], ["right"] * 3 + ["left"], (("side", 0),) * 4), 10)

    def test_trains_that_stand_in_each_others_way_count_as_all_do(self):
        self.assertEqual(left_to_go([0, 0], ["right", "left"], (("lane", 0), ("lane", 1))), 4)

    def test_the_most(self):
        stand = (("side", 0),) * 4 + (("lane", 0), ("lane", 1))
        self.assertEqual(left_to_go([4] * 8, ["right"] * 6, stand), 47)


class Kinds(unittest.TestCase):
    def test_a_number(self):
        self.assertIs(type(left_to_go([0], ["right"], (("lane", 0),))), int)
        self.assertIs(type(left_to_go([0], ["right"], (OUT,))), int)

    def test_the_function_is_defined_in_this_file(self):
        self.assertEqual(left_to_go.__module__, "sidinglane.moves")

    def test_the_arguments_have_their_names(self):
        self.assertEqual(left_to_go(lane=[0], ways=["right"], stand=(("lane", 0),)), 1)


class Moves(unittest.TestCase):
    def taken(self, lane, ways, stand, move):
        return left_to_go(lane, ways, stand) - left_to_go(lane, ways, behind(lane, ways, stand, move))

    def test_a_go_takes_one(self):
        lane, ways = [1, 1, 1], ["right", "left"]
        self.assertEqual(self.taken(lane, ways, (("lane", 0), OUT), ("go", 0)), 1)
        self.assertEqual(self.taken(lane, ways, (("lane", 2), OUT), ("go", 0)), 1)
        self.assertEqual(self.taken(lane, ways, (OUT, ("lane", 2)), ("go", 1)), 1)
        self.assertEqual(self.taken(lane, ways, (OUT, ("lane", 0)), ("go", 1)), 1)

    def test_an_on_takes_one(self):
        lane, ways = [1, 1, 1], ["right", "left"]
        self.assertEqual(self.taken(lane, ways, (("side", 0), OUT), ("on", 0)), 1)
        self.assertEqual(self.taken(lane, ways, (("side", 2), OUT), ("on", 0)), 1)
        self.assertEqual(self.taken(lane, ways, (OUT, ("side", 2)), ("on", 1)), 1)
        self.assertEqual(self.taken(lane, ways, (OUT, ("side", 0)), ("on", 1)), 1)

    def test_an_aside_takes_nothing(self):
        for place in range(3):
            for way in ("right", "left"):
                self.assertEqual(self.taken([1] * 3, [way], (("lane", place),), ("aside", 0)), 0)

    def test_in_all_small_stands(self):
        for lane, ways, stand in small_stands():
            for move in allowed(lane, ways, stand):
                self.assertEqual(self.taken(lane, ways, stand, move), 0 if move[0] == "aside" else 1)

    def test_a_row_that_brings_all_through_by_hand(self):
        lane, ways, stand = [0, 1, 0], ["right", "left"], (("lane", 0), ("lane", 2))
        row = [
            ("go", 0), ("aside", 0), ("go", 1), ("go", 1), ("on", 0), ("go", 1), ("go", 0),
        ]
        left = [left_to_go(lane, ways, stand)]
        for move in row:
            stand = behind(lane, ways, stand, move)
            left.append(left_to_go(lane, ways, stand))
        self.assertEqual(stand, (OUT, OUT))
        self.assertEqual(left, [6, 5, 5, 4, 3, 2, 1, 0])


if __name__ == "__main__":
    unittest.main()
