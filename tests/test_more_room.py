"""Point 9: what stays so where a siding holds more."""

import unittest

from sidinglane.moves import allowed
from sidinglane.search import closed, least_row, prices, reached
from tests.reckoning import small_graphs, walked

OUT = ("out",)

STARTS = (
    ([0, 1, 0, 2, 0], ["right", "left", "left"], (("lane", 0), ("lane", 3), ("lane", 4))),
    ([0, 0, 0, 0], ["right", "left"], (("lane", 0), ("lane", 3))),
    ([0, 0, 1, 0, 0], ["right", "right", "left", "left"], (("lane", 0), ("lane", 1), ("lane", 3), ("lane", 4))),
    ([1, 0, 1, 0], ["right", "left", "left"], (("side", 0), ("lane", 1), ("side", 2))),
    ([3, 0], ["right", "left", "left", "right"], (("lane", 0), ("side", 0), ("side", 0), ("lane", 1))),
    ([0, 3, 0], ["right", "right", "left"], (OUT, OUT, OUT)),
)


def longer_ones(lane):
    """The lane with one siding longer, by one and by more, up to 4, and with all of them as long as can be."""
    for place, held in enumerate(lane):
        for more in range(held + 1, 5):
            yield lane[:place] + [more] + lane[place + 1:]
    yield [4] * len(lane)


class Stays(unittest.TestCase):
    def still_so(self, lane, ways, stand, longer):
        costs, others = dict(prices(lane, ways, stand)), dict(prices(longer, ways, stand))
        self.assertLessEqual(set(reached(lane, ways, stand)), set(reached(longer, ways, stand)))
        self.assertLessEqual(set(allowed(lane, ways, stand)), set(allowed(longer, ways, stand)))
        for then, price in costs.items():
            self.assertIn(then, others)
            if price is not None:
                self.assertIsNotNone(others[then])
                self.assertLessEqual(others[then], price)
        row = least_row(lane, ways, stand)
        if row is not None:
            self.assertEqual(walked(longer, ways, stand, row), (OUT,) * len(ways))
            self.assertLessEqual(len(least_row(longer, ways, stand)), len(row))
            self.assertIsNone(closed(longer, ways, stand))

    def test_for_all_small_stands_of_two_trains(self):
        for lane, ways, links in small_graphs():
            if len(ways) == 2:
                for stand in links:
                    for place, held in enumerate(lane):
                        self.still_so(lane, ways, stand, lane[:place] + [held + 1] + lane[place + 1:])

    def test_for_longer_lanes_by_one_and_by_more(self):
        for lane, ways, stand in STARTS:
            for longer in longer_ones(lane):
                self.still_so(lane, ways, stand, longer)


class Changes(unittest.TestCase):
    def test_a_shut_stand_may_get_open(self):
        ways, stand = ["right", "left"], (("lane", 0), ("lane", 2))
        self.assertIsNotNone(closed([0, 0, 0], ways, stand))
        self.assertIsNone(closed([0, 1, 0], ways, stand))
        self.assertEqual(len(least_row([0, 1, 0], ways, stand)), 7)

    def test_two_and_two_need_a_siding_for_two(self):
        ways, stand = ["right", "right", "left", "left"], (("lane", 0), ("lane", 1), ("lane", 3), ("lane", 4))
        self.assertIsNone(least_row([0, 0, 1, 0, 0], ways, stand))
        self.assertEqual(len(least_row([0, 0, 2, 0, 0], ways, stand)), 20)

    def test_a_price_may_fall(self):
        # The left one cannot get past the train at the siding, unless it has one at its own place.
        ways, stand = ["right", "right", "left"], (("lane", 0), ("lane", 1), ("lane", 3))
        self.assertEqual(len(least_row([0, 1, 0, 0], ways, stand)), 13)
        self.assertEqual(len(least_row([0, 1, 0, 1], ways, stand)), 12)

    def test_more_stands_may_be_reached(self):
        ways, stand = ["right"], (("lane", 0),)
        self.assertEqual(len(reached([0, 0], ways, stand)), 3)
        self.assertEqual(len(reached([0, 1], ways, stand)), 4)
        self.assertEqual(len(reached([0, 2], ways, stand)), 4)


if __name__ == "__main__":
    unittest.main()
