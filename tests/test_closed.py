"""Point 7: closed sets."""

import unittest

from sidinglane.moves import allowed, behind
from sidinglane.search import closed, least_row, reached
from tests.reckoning import prices_by_hand, small_graphs

OUT = ("out",)


class Case(unittest.TestCase):
    def is_closed(self, lane, ways, stand, stands):
        """The stands are a closed set with that stand in it."""
        self.assertIs(type(stands), list)
        self.assertIn(stand, stands)
        within = set(stands)
        for here in stands:
            self.assertNotEqual(here, (OUT,) * len(ways))
            for move in allowed(lane, ways, here):
                self.assertIn(behind(lane, ways, here, move), within)


class Closed(Case):
    def test_none_where_all_are_out(self):
        self.assertIsNone(closed([0], ["right"], (OUT,)))
        self.assertIsNone(closed([4] * 8, ["right", "left"] * 3, (OUT,) * 6))

    def test_none_for_an_open_stand(self):
        self.assertIsNone(closed([0], ["left"], (("lane", 0),)))
        self.assertIsNone(closed([0, 1, 0], ["right", "left"], (("lane", 0), ("lane", 2))))
        self.assertIsNone(closed([1, 0], ["right", "left"], (("lane", 0), ("lane", 1))))
        self.assertIsNone(closed([0, 2, 0], ["right", "left"], (("side", 1), ("side", 1))))

    def test_none_for_an_open_stand_from_which_a_move_leads_to_a_shut_one(self):
        lane, ways, stand = [0, 1, 0, 0], ["right", "left"], (("lane", 1), ("lane", 3))
        shut = behind(lane, ways, stand, ("go", 0))
        self.assertIsNone(closed(lane, ways, stand))
        self.is_closed(lane, ways, shut, closed(lane, ways, shut))

    def test_two_that_cannot_move(self):
        stand = (("lane", 0), ("lane", 1))
        told = closed([0, 0], ["right", "left"], stand)
        self.is_closed([0, 0], ["right", "left"], stand, told)

    def test_two_that_meet_without_a_siding(self):
        lane, ways, stand = [0, 0, 0], ["right", "left"], (("lane", 0), ("lane", 2))
        told = closed(lane, ways, stand)
        self.is_closed(lane, ways, stand, told)
        self.assertLessEqual({stand, (("lane", 1), ("lane", 2)), (("lane", 0), ("lane", 1))}, set(told))

    def test_trains_in_a_shut_stand_that_get_out(self):
        lane, ways = [0, 0, 0, 0], ["right", "left", "right"]
        stand = (("lane", 0), ("lane", 2), ("lane", 3))
        self.is_closed(lane, ways, stand, closed(lane, ways, stand))

    def test_two_that_have_to_pass_two_at_one_siding_for_one(self):
        lane, ways = [0, 0, 1, 0, 0], ["right", "right", "left", "left"]
        stand = (("lane", 0), ("lane", 1), ("lane", 3), ("lane", 4))
        self.is_closed(lane, ways, stand, closed(lane, ways, stand))

    def test_just_the_shut_ones_of_all_small_stands(self):
        for lane, ways, links in small_graphs():
            prices = prices_by_hand(links)
            for stand in links:
                told = closed(lane, ways, stand)
                if stand in prices:
                    self.assertIsNone(told)
                    continue
                self.assertIs(type(told), list)
                within = set(told)
                self.assertIn(stand, within)
                self.assertNotIn((OUT,) * len(ways), within)
                for here in told:
                    self.assertLessEqual(set(links[here]), within)

    def test_what_is_reached_from_a_shut_stand_is_in_it_and_shut_too(self):
        lane, ways = [0, 0, 0, 1, 1], ["right", "left", "left"]
        stand = (("lane", 0), ("lane", 2), ("side", 4))
        told = closed(lane, ways, stand)
        self.assertGreater(len(reached(lane, ways, stand)), 8)
        self.is_closed(lane, ways, stand, told)
        for here in reached(lane, ways, stand):
            self.assertIn(here, told)
            self.assertIsNone(least_row(lane, ways, here))

    def test_the_greatest_lane_and_all_trains(self):
        ways = ["right"] * 3 + ["left"] * 3
        stand = tuple(("lane", place) for place in (0, 1, 2, 7, 6, 5))
        self.assertIsNone(closed([4] * 8, ways, stand))
        self.is_closed([0] * 8, ways, stand, closed([0] * 8, ways, stand))


class Kinds(unittest.TestCase):
    def test_the_function_is_defined_in_this_file(self):
        self.assertEqual(closed.__module__, "sidinglane.search")

    def test_the_arguments_have_their_names(self):
        self.assertIsNone(closed(lane=[0], ways=["left"], stand=(OUT,)))


if __name__ == "__main__":
    unittest.main()
