"""Point 7: the stands to which rows lead."""

import unittest

from sidinglane.search import reached
from tests.reckoning import graph, reached_by_hand, small_graphs

OUT = ("out",)


class Reached(unittest.TestCase):
    def are(self, lane, ways, stand, *stands):
        found = reached(lane, ways, stand)
        self.assertEqual(len(found), len(stands))
        self.assertEqual(set(found), set(stands))

    def test_all_out_is_alone(self):
        self.are([0], ["right"], (OUT,), (OUT,))
        self.are([4] * 8, ["right", "left"] * 3, (OUT,) * 6, (OUT,) * 6)

    def test_a_single_train_without_a_siding(self):
        self.are([0, 0, 0], ["right"], (("lane", 1),), (("lane", 1),), (("lane", 2),), (OUT,))
        self.are([0, 0, 0], ["left"], (("lane", 1),), (("lane", 1),), (("lane", 0),), (OUT,))

    def test_a_single_train_with_a_siding(self):
        self.are(
            [0, 1, 0], ["right"], (("lane", 0),),
            (("lane", 0),), (("lane", 1),), (("side", 1),), (("lane", 2),), (OUT,),
        )

    def test_a_siding_behind_a_train_is_not_reached(self):
        self.are([1, 0, 0], ["right"], (("lane", 1),), (("lane", 1),), (("lane", 2),), (OUT,))

    def test_from_a_siding(self):
        self.are([1, 1], ["right"], (("side", 0),), (("side", 0),), (("lane", 1),), (("side", 1),), (OUT,))

    def test_two_that_cannot_move(self):
        stand = (("lane", 0), ("lane", 1))
        self.are([0, 0], ["right", "left"], stand, stand)

    def test_two_that_meet_without_a_siding(self):
        self.are(
            [0, 0, 0], ["right", "left"], (("lane", 0), ("lane", 2)),
            (("lane", 0), ("lane", 2)), (("lane", 1), ("lane", 2)), (("lane", 0), ("lane", 1)),
        )

    def test_a_full_siding_is_not_entered(self):
        self.are(
            [1], ["right", "left"], (("side", 0), ("lane", 0)),
            (("side", 0), ("lane", 0)), (OUT, ("lane", 0)), (("side", 0), OUT), (OUT, OUT), (OUT, ("side", 0)),
        )

    def test_each_once_and_just_these_in_all_small_stands(self):
        for lane, ways, links in small_graphs():
            for stand, then in reached_by_hand(links).items():
                found = reached(lane, ways, stand)
                self.assertEqual(len(found), len(then))
                self.assertEqual(set(found), then)

    def test_each_once_and_just_these_on_a_longer_lane(self):
        lane, ways = [0, 1, 0, 2, 0], ["right", "left", "left"]
        for stand, then in reached_by_hand(graph(lane, ways)).items():
            found = reached(lane, ways, stand)
            self.assertEqual((len(found), set(found)), (len(then), then))

    def test_many_trains_one_behind_the_other(self):
        # The trains keep their order, so a stand is told by which places are taken: any of them may be.
        stand = tuple(("lane", place) for place in range(5))
        self.assertEqual(len(reached([0] * 5, ["left"] * 5, stand)), 2 ** 5)


class Kinds(unittest.TestCase):
    def test_a_list_of_stands(self):
        found = reached([1, 1], ["right", "left"], (("lane", 0), ("lane", 1)))
        self.assertIs(type(found), list)
        for stand in found:
            self.assertIs(type(stand), tuple)
            for spot in stand:
                self.assertIs(type(spot), tuple)
                self.assertEqual([type(part) for part in spot], [str, int][:len(spot)])

    def test_the_function_is_defined_in_this_file(self):
        self.assertEqual(reached.__module__, "sidinglane.search")

    def test_the_arguments_have_their_names(self):
        self.assertEqual(reached(lane=[0], ways=["left"], stand=(OUT,)), [(OUT,)])


if __name__ == "__main__":
    unittest.main()
