"""Points 5 and 6: prices, and rows that bring all through by so many moves."""

import itertools
import unittest

from sidinglane.moves import allowed, behind, left_to_go
from sidinglane.search import least_row, prices, reached
from tests.reckoning import all_stands, asides, graph, prices_by_hand, small_graphs, walked

OUT = ("out",)


class Case(unittest.TestCase):
    def costs(self, lane, ways, stand, price):
        """The stand has this price, and the row that is told brings all through by so many moves."""
        self.assertEqual(dict(prices(lane, ways, stand))[stand], price)
        row = least_row(lane, ways, stand)
        if price is None:
            self.assertIsNone(row)
            return
        self.assertIs(type(row), list)
        self.assertEqual(len(row), price)
        self.assertEqual(walked(lane, ways, stand, row), (OUT,) * len(ways))
        self.assertEqual(price, left_to_go(lane, ways, stand) + asides(row))


class ByHand(Case):
    def test_all_out(self):
        for ways in (["right"], ["left", "right"], ["right", "left"] * 3):
            stand = (OUT,) * len(ways)
            self.assertEqual(prices([4, 0], ways, stand), [(stand, 0)])
            self.assertEqual(least_row([4, 0], ways, stand), [])

    def test_a_single_train(self):
        for many in range(1, 9):
            for held in (0, 1):
                for place in range(many):
                    self.costs([held] * many, ["right"], (("lane", place),), many - place)
                    self.costs([held] * many, ["left"], (("lane", place),), place + 1)

    def test_the_only_row_of_a_single_train(self):
        self.assertEqual(least_row([0, 0, 0], ["right"], (("lane", 1),)), [("go", 0), ("go", 0)])
        self.assertEqual(least_row([4, 4, 4], ["left"], (("lane", 1),)), [("go", 0), ("go", 0)])
        self.assertEqual(least_row([1, 1, 1], ["right"], (("side", 1),)), [("on", 0), ("go", 0)])

    def test_all_prices_of_a_single_train(self):
        told = prices([0, 1, 0], ["right"], (("lane", 0),))
        self.assertEqual(len(told), 5)
        self.assertEqual(
            dict(told), {(("lane", 0),): 3, (("lane", 1),): 2, (("side", 1),): 2, (("lane", 2),): 1, (OUT,): 0},
        )

    def test_two_that_meet_with_a_siding_between(self):
        self.costs([0, 1, 0], ["right", "left"], (("lane", 0), ("lane", 2)), 7)
        self.costs([0, 1, 0], ["left", "right"], (("lane", 2), ("lane", 0)), 7)
        self.costs([0, 0, 0, 3, 0], ["right", "left"], (("lane", 0), ("lane", 4)), 11)

    def test_two_that_meet_with_a_siding_at_one_of_them(self):
        self.costs([1, 0], ["right", "left"], (("lane", 0), ("lane", 1)), 5)
        self.costs([0, 1], ["right", "left"], (("lane", 0), ("lane", 1)), 5)

    def test_the_only_row_of_two_with_a_siding_at_the_lanes_end(self):
        row = least_row([1, 0], ["right", "left"], (("lane", 0), ("lane", 1)))
        self.assertEqual(row[:2], [("aside", 0), ("go", 1)])
        self.assertEqual(sorted(row[2:]), [("go", 0), ("go", 1), ("on", 0)])

    def test_two_that_meet_without_a_siding(self):
        self.costs([0, 0], ["right", "left"], (("lane", 0), ("lane", 1)), None)
        self.costs([0, 0, 0], ["right", "left"], (("lane", 0), ("lane", 2)), None)
        self.costs([0] * 8, ["left", "right"], (("lane", 7), ("lane", 0)), None)

    def test_two_that_meet_with_a_siding_behind_one_of_them_only(self):
        self.costs([1, 0, 0], ["right", "left"], (("lane", 1), ("lane", 2)), None)
        self.costs([0, 0, 4], ["right", "left"], (("lane", 0), ("lane", 1)), None)

    def test_two_that_have_passed_each_other(self):
        self.costs([0, 0], ["left", "right"], (("lane", 0), ("lane", 1)), 2)
        self.costs([0] * 4, ["left", "right"], (("lane", 1), ("lane", 2)), 4)

    def test_a_train_in_a_siding_at_the_start(self):
        self.costs([0, 1, 0], ["right", "left"], (("side", 1), ("lane", 2)), 5)
        self.costs([0, 1, 0], ["right", "left"], (("lane", 0), ("side", 1)), 5)
        self.costs([1, 0], ["right", "left"], (("side", 0), ("lane", 1)), 4)

    def test_a_train_in_a_siding_that_has_not_passed(self):
        self.costs([0, 1, 0, 1], ["right", "left"], (("side", 1), ("lane", 3)), 7)
        self.costs([1, 0, 1, 0], ["right", "left"], (("lane", 0), ("side", 2)), 7)

    def test_trains_in_the_same_siding(self):
        self.costs([0, 2, 0], ["right", "left"], (("side", 1), ("side", 1)), 4)
        self.costs([0, 3, 0], ["right", "right", "left"], (("side", 1),) * 3, 6)
        self.costs([4, 0], ["right", "left"] * 2, (("side", 0),) * 4, 6)

    def test_a_siding_that_has_to_be_used_twice(self):
        # Each of the two that go right has to be past the left one, and the siding holds but one.
        ways, stand = ["right", "right", "left"], (("lane", 0), ("lane", 1), ("lane", 3))
        self.costs([0, 1, 0, 0], ways, stand, 4 + 3 + 4 + 2)
        self.costs([0, 2, 0, 0], ways, stand, 4 + 3 + 4 + 2)

    def test_one_aside_lets_two_pass(self):
        self.costs([0, 1, 0, 0], ["right", "left", "left"], (("lane", 0), ("lane", 2), ("lane", 3)), 4 + 3 + 4 + 1)

    def test_two_that_have_to_pass_two_at_one_siding_for_one(self):
        ways, stand = ["right", "right", "left", "left"], (("lane", 0), ("lane", 1), ("lane", 3), ("lane", 4))
        self.costs([0, 0, 1, 0, 0], ways, stand, None)

    def test_two_that_have_to_pass_two_at_one_siding_for_two(self):
        ways, stand = ["right", "right", "left", "left"], (("lane", 0), ("lane", 1), ("lane", 3), ("lane", 4))
        self.costs([0, 0, 2, 0, 0], ways, stand, 5 + 4 + 4 + 5 + 2)

    def test_the_greatest_lane_and_all_trains(self):
        # Of each two that meet one has to go aside, so all three of one way have to, and these are enough.
        ways = ["right"] * 3 + ["left"] * 3
        stand = tuple(("lane", place) for place in (0, 1, 2, 7, 6, 5))
        row = least_row([4] * 8, ways, stand)
        self.assertEqual((len(row), asides(row)), (45, 3))
        self.assertEqual(walked([4] * 8, ways, stand, row), (OUT,) * 6)

    def test_the_greatest_lane_and_all_trains_in_each_others_way(self):
        ways = ["right"] * 3 + ["left"] * 3
        stand = tuple(("lane", place) for place in (0, 1, 2, 7, 6, 5))
        for lane in ([0] * 8, [4, 0, 0, 0, 0, 0, 0, 4], [0, 0, 0, 1, 0, 0, 0, 0]):
            self.assertIsNone(least_row(lane, ways, stand))


class OneWay(Case):
    def test_what_is_left_to_go_and_no_aside(self):
        for lane in ([0, 0, 0], [1, 0, 2], [0, 4, 0], [2, 2, 2]):
            for way in ("right", "left"):
                for many in (1, 2, 3):
                    for stand in all_stands(lane, many):
                        self.never_aside(lane, [way] * many, stand)

    def test_all_trains_of_one_way(self):
        places = tuple(("lane", place) for place in (5, 0, 3, 1, 4, 2))
        sides = (("side", 0),) * 4 + (("side", 7),) * 2
        for way in ("right", "left"):
            self.never_aside([4] * 8, [way] * 6, places)
            self.never_aside([0] * 8, [way] * 6, places)
            self.never_aside([4] * 8, [way] * 6, sides)

    def never_aside(self, lane, ways, stand):
        row = least_row(lane, ways, stand)
        self.assertEqual(len(row), left_to_go(lane, ways, stand))
        self.assertEqual(asides(row), 0)
        self.assertEqual(walked(lane, ways, stand, row), (OUT,) * len(ways))

    def test_their_prices(self):
        lane, ways = [1, 0, 2], ["left", "left"]
        told = prices(lane, ways, (("lane", 2), ("lane", 1)))
        self.assertGreater(len(told), 10)
        for stand, price in told:
            self.assertEqual(price, left_to_go(lane, ways, stand))


class Prices(Case):
    def test_one_for_each_stand_that_is_reached(self):
        for lane, ways, links in small_graphs():
            if len(ways) < 3:
                for stand in links:
                    told = [then for then, price in prices(lane, ways, stand)]
                    self.assertEqual(sorted(told), sorted(reached(lane, ways, stand)))

    def test_those_of_all_small_stands(self):
        for lane, ways, links in small_graphs():
            by_hand = prices_by_hand(links)
            for stand in links:
                for then, price in prices(lane, ways, stand):
                    self.assertEqual(price, by_hand.get(then))

    def test_one_more_than_the_least_of_those_to_which_one_move_leads(self):
        starts = (
            ([0, 1, 0, 2, 0], ["right", "left", "left"], (("lane", 0), ("lane", 3), ("lane", 4))),
            ([1, 0, 1, 0, 1], ["right", "left", "right", "left"], (("lane", 0), ("lane", 4), ("lane", 1), ("lane", 3))),
            ([0, 0, 1, 0, 0], ["right", "right", "left"], (("lane", 0), ("lane", 1), ("lane", 4))),
        )
        for lane, ways, start in starts:
            told = prices(lane, ways, start)
            table = dict(told)
            self.assertEqual(len(told), len(table))
            self.assertIn(None, table.values())
            for stand, price in told:
                self.is_one_more(lane, ways, stand, price, table)

    def is_one_more(self, lane, ways, stand, price, table):
        behind_it = [table[behind(lane, ways, stand, move)] for move in allowed(lane, ways, stand)]
        costs = [cost for cost in behind_it if cost is not None]
        if stand == (OUT,) * len(ways):
            self.assertEqual(price, 0)
        elif costs:
            self.assertEqual(price, min(costs) + 1)
        else:
            self.assertIsNone(price)


class Rows(Case):
    def test_those_of_all_small_stands(self):
        for lane, ways, links in small_graphs():
            by_hand = prices_by_hand(links)
            for stand in links:
                row = least_row(lane, ways, stand)
                if stand not in by_hand:
                    self.assertIsNone(row)
                    continue
                self.assertEqual(len(row), by_hand[stand])
                self.assertEqual(walked(lane, ways, stand, row), (OUT,) * len(ways))
                self.assertEqual(len(row), left_to_go(lane, ways, stand) + asides(row))

    def test_those_of_a_longer_lane(self):
        lane, ways = [0, 1, 0, 2, 0], ["right", "left", "left"]
        by_hand = prices_by_hand(graph(lane, ways))
        for stand in itertools.islice(all_stands(lane, 3), 0, None, 3):
            row = least_row(lane, ways, stand)
            self.assertEqual(None if row is None else len(row), by_hand.get(stand))
            if row is not None:
                self.assertEqual(walked(lane, ways, stand, row), (OUT,) * 3)


class Kinds(unittest.TestCase):
    def test_prices_are_a_list_of_pairs_of_a_stand_and_a_number_or_none(self):
        told = prices([0, 1, 0], ["right", "left"], (("lane", 0), ("lane", 2)))
        self.assertIs(type(told), list)
        for pair in told:
            self.assertIs(type(pair), tuple)
            stand, price = pair
            self.assertIs(type(stand), tuple)
            self.assertIn(type(price), (int, type(None)))

    def test_a_row_is_a_list_of_moves(self):
        row = least_row([0, 1, 0], ["right", "left"], (("lane", 0), ("lane", 2)))
        self.assertIs(type(row), list)
        for move in row:
            self.assertIs(type(move), tuple)
            self.assertEqual([type(part) for part in move], [str, int])

    def test_the_functions_are_defined_in_this_file(self):
        for function in (prices, least_row):
            self.assertEqual(function.__module__, "sidinglane.search")

    def test_the_arguments_have_their_names(self):
        self.assertEqual(prices(lane=[0], ways=["left"], stand=(OUT,)), [((OUT,), 0)])
        self.assertEqual(least_row(lane=[0], ways=["left"], stand=(("lane", 0),)), [("go", 0)])


if __name__ == "__main__":
    unittest.main()
