"""Point 1: nothing that is handed in is changed or kept, and what is told is the asker's own."""

import copy
import unittest

from sidinglane.errors import LaneError
from sidinglane.lanes import need_lane, need_stand, need_ways
from sidinglane.moves import allowed, behind, left_to_go
from sidinglane.search import closed, least_row, prices, reached
from sidinglane.turning import turned_lane, turned_stand, turned_ways
from sidinglane.yard import Yard

LANE = [1, 0, 2, 1]
WAYS = ["right", "left", "left"]
STAND = (("lane", 0), ("lane", 2), ("side", 2))
ALLOWED = [("go", 0), ("aside", 0), ("go", 1), ("aside", 1), ("on", 2)]

CALLS = (
    lambda lane, ways, stand: need_lane(lane),
    lambda lane, ways, stand: need_ways(ways),
    need_stand,
    left_to_go,
    allowed,
    lambda lane, ways, stand: behind(lane, ways, stand, ("go", 0)),
    lambda lane, ways, stand: behind(lane, ways, stand, ("aside", 1)),
    lambda lane, ways, stand: behind(lane, ways, stand, ("on", 2)),
    lambda lane, ways, stand: behind(lane, ways, stand, ("on", 0)),
    reached,
    prices,
    least_row,
    closed,
    lambda lane, ways, stand: turned_lane(lane),
    lambda lane, ways, stand: turned_ways(ways),
    lambda lane, ways, stand: turned_stand(lane, stand),
    lambda lane, ways, stand: all_of_a_yard(Yard(lane, ways, stand)),
)

# A stand from which no row brings all through, and the lists that are told of it and of the one above.
SHUT = ([0, 0, 0], ["right", "left"], (("lane", 0), ("lane", 2)))
LISTS = (
    (allowed, (LANE, WAYS, STAND)), (reached, (LANE, WAYS, STAND)), (prices, (LANE, WAYS, STAND)),
    (least_row, (LANE, WAYS, STAND)), (closed, SHUT), (turned_lane, (LANE,)), (turned_ways, (WAYS,)),
)


def all_of_a_yard(yard):
    """What a yard tells, behind some deeds."""
    yard.longer(1)
    gained = yard.gained()
    yard.do(("go", 0))
    return (
        gained, yard.gained(), yard.lane(), yard.ways(), yard.stand(), yard.price(), yard.row(), yard.closed(),
    )


def answer(call, *told):
    try:
        return call(*told)
    except LaneError as error:
        return error.__class__


class HandedIn(unittest.TestCase):
    def test_it_is_as_before_behind_each_call(self):
        for call in CALLS:
            lane, ways, stand = list(LANE), list(WAYS), STAND
            answer(call, lane, ways, stand)
            self.assertEqual((lane, ways, stand), (LANE, WAYS, STAND))

    def test_it_is_as_before_behind_each_refusal(self):
        wrong = (
            ([1, 0, 5, 1], list(WAYS), STAND),
            ([1, True], list(WAYS), STAND),
            (list(LANE), ["right", "up", None], STAND),
            (list(LANE), ["left"] * 7, STAND),
            (list(LANE), list(WAYS), [("lane", 0), ("lane", 2), ("side", 2)]),
            (list(LANE), list(WAYS), (["lane", 0], ["lane", [2]], ("side", 2))),
            (list(LANE), list(WAYS), ("lane", 0)),
        )
        for call in CALLS:
            for told in wrong:
                before = copy.deepcopy(told)
                answer(call, *told)
                self.assertEqual(told, before)

    def test_a_refused_move_is_as_before(self):
        for move in (["go", 0], ["go"], {"go": 0}, ("go", [0]), (["go"], 0)):
            before = copy.deepcopy(move)
            self.assertTrue(issubclass(answer(behind, LANE, WAYS, STAND, move), LaneError))
            self.assertEqual(move, before)

    def test_lists_that_change_later_are_asked_as_they_are_then(self):
        lane, ways, stand = [0, 0], ["right", "left"], (("lane", 0), ("out",))
        self.assertEqual(allowed(lane, ways, stand), [("go", 0)])
        self.assertEqual(left_to_go(lane, ways, stand), 2)
        self.assertEqual(behind(lane, ways, stand, ("go", 0)), (("lane", 1), ("out",)))
        lane[0] = 1
        self.assertEqual(allowed(lane, ways, stand), [("go", 0), ("aside", 0)])
        self.assertEqual(behind(lane, ways, stand, ("aside", 0)), (("side", 0), ("out",)))
        lane.append(0)
        self.assertEqual(left_to_go(lane, ways, stand), 3)
        ways[0] = "left"
        self.assertEqual(left_to_go(lane, ways, stand), 1)
        self.assertEqual(behind(lane, ways, stand, ("go", 0)), (("out",), ("out",)))
        self.assertIs(need_stand(lane, ways, (("side", 0), ("lane", 2))), True)
        lane[0] = 5
        for call in (need_stand, left_to_go, allowed):
            self.assertEqual(answer(call, lane, ways, stand).__name__, "BadLane")
        lane[0] = 0
        ways.append("up")
        for call in (need_stand, left_to_go, allowed):
            self.assertEqual(answer(call, lane, ways, stand).__name__, "BadWays")

    def test_a_search_asks_lists_that_change_later_as_they_are_then(self):
        lane, ways, stand = [0, 0], ["right", "left"], (("lane", 0), ("lane", 1))
        self.assertEqual(reached(lane, ways, stand), [stand])
        self.assertEqual(prices(lane, ways, stand), [(stand, None)])
        self.assertIsNone(least_row(lane, ways, stand))
        self.assertEqual(closed(lane, ways, stand), [stand])
        lane[0] = 1
        self.assertGreater(len(reached(lane, ways, stand)), 1)
        self.assertEqual(dict(prices(lane, ways, stand))[stand], 5)
        self.assertEqual(len(least_row(lane, ways, stand)), 5)
        self.assertIsNone(closed(lane, ways, stand))
        lane[0] = 0
        ways.reverse()
        self.assertEqual(dict(prices(lane, ways, stand))[stand], 2)
        self.assertEqual(sorted(least_row(lane, ways, stand)), [("go", 0), ("go", 1)])
        lane[0] = 5
        ways.append("up")
        for call in (reached, prices, least_row, closed, Yard):
            self.assertEqual(answer(call, lane, ways, stand).__name__, "BadLane")
        lane[0] = 0
        for call in (reached, prices, least_row, closed, Yard):
            self.assertEqual(answer(call, lane, ways, stand).__name__, "BadWays")

    def test_lists_that_were_told_stay_when_what_was_handed_in_changes(self):
        for call, handed in LISTS:
            told = copy.deepcopy(handed)
            found = call(*told)
            before = list(found)
            for part in told:
                if type(part) is list:
                    part.clear()
            self.assertEqual(found, before)

    def test_what_was_told_stays_when_what_was_handed_in_changes(self):
        lane, ways = list(LANE), list(WAYS)
        moves = allowed(lane, ways, STAND)
        then = behind(lane, ways, STAND, ("go", 0))
        lane[0] = 0
        lane.clear()
        ways.reverse()
        ways.clear()
        self.assertEqual(moves, ALLOWED)
        self.assertEqual(then, (("lane", 1), ("lane", 2), ("side", 2)))


class Told(unittest.TestCase):
    def test_changing_what_was_told_changes_nothing_told_later(self):
        for change in (list.clear, list.reverse, list.pop, lambda moves: moves.append(None)):
            moves = allowed(LANE, WAYS, STAND)
            self.assertEqual(moves, ALLOWED)
            change(moves)
            self.assertEqual(allowed(LANE, WAYS, STAND), ALLOWED)
            self.assertEqual(behind(LANE, WAYS, STAND, ("on", 2)), (("lane", 0), ("lane", 2), ("lane", 1)))
            self.assertEqual(left_to_go(LANE, WAYS, STAND), 10)

    def test_changing_each_list_that_was_told_changes_nothing_told_later(self):
        for call, handed in LISTS:
            told = copy.deepcopy(handed)
            first = call(*told)
            self.assertIs(type(first), list)
            before = list(first)
            for change in (list.clear, list.reverse, list.pop, lambda found: found.append(None)):
                found = call(*told)
                self.assertIsNot(found, first)
                change(found)
                self.assertEqual(call(*told), before)
            self.assertEqual((first, told), (before, handed))

    def test_a_turned_list_is_another_one_where_nothing_changes(self):
        lane = [1, 0, 1]
        turned_lane(lane).clear()
        self.assertEqual(lane, [1, 0, 1])

    def test_an_empty_list_is_the_askers_own_too(self):
        stand = (("out",),)
        allowed([0], ["right"], stand).append(("go", 0))
        self.assertEqual(allowed([0], ["right"], stand), [])
        least_row([0], ["right"], stand).append(("go", 0))
        self.assertEqual(least_row([0], ["right"], stand), [])

    def test_each_call_tells_a_list_of_its_own(self):
        moves = allowed(LANE, WAYS, STAND)
        self.assertIsNot(allowed(LANE, WAYS, STAND), moves)

    def test_later_calls_do_not_change_what_was_told(self):
        moves = allowed(LANE, WAYS, STAND)
        for move in ALLOWED:
            then = behind(LANE, WAYS, STAND, move)
            allowed(LANE, WAYS, then)
            allowed([4], ["left"], (("lane", 0),))
        self.assertEqual(moves, ALLOWED)

    def test_the_same_question_has_the_same_answer(self):
        for call in CALLS:
            first = answer(call, LANE, WAYS, STAND)
            self.assertEqual(answer(call, LANE, WAYS, STAND), first)
            self.assertEqual(answer(call, list(LANE), list(WAYS), tuple(list(STAND))), first)


if __name__ == "__main__":
    unittest.main()
