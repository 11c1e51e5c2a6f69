"""Point 10: the yard."""

import unittest

from sidinglane.errors import NoMove, NoPlace
from sidinglane.moves import allowed, behind
from sidinglane.search import closed, least_row, prices, reached
from sidinglane.yard import Yard
from tests.reckoning import walked
from tests.things import Hostile, Liar, Yes, any_things

OUT = ("out",)
LANE = [0, 1, 0, 4]
WAYS = ["right", "left", "left"]
STAND = (("lane", 0), ("lane", 2), ("side", 3))


class Case(unittest.TestCase):
    def is_as(self, yard, lane, ways, stand, gained):
        """The yard is so, and tells what the functions tell of it; asked twice, as asking changes nothing."""
        for _ in range(2):
            self.assertEqual((yard.lane(), yard.ways(), yard.stand()), (lane, ways, stand))
            self.assertEqual(yard.price(), dict(prices(lane, ways, stand))[stand])
            self.assertEqual(yard.row() is None, least_row(lane, ways, stand) is None)
            if yard.row() is not None:
                self.assertEqual(len(yard.row()), yard.price())
                self.assertEqual(walked(lane, ways, stand, yard.row()), (OUT,) * len(ways))
            self.assertEqual(yard.closed() is None, closed(lane, ways, stand) is None)
            if yard.closed() is not None:
                self.is_closed(lane, ways, stand, yard.closed())
            self.assertEqual(yard.gained(), gained)
            self.assertIs(type(yard.gained()), int)

    def is_closed(self, lane, ways, stand, stands):
        self.assertIn(stand, stands)
        self.assertNotIn((OUT,) * len(ways), stands)
        for here in stands:
            for move in allowed(lane, ways, here):
                self.assertIn(behind(lane, ways, here, move), stands)

    def refuses_move(self, yard, move):
        with self.assertRaises(NoMove) as caught:
            yard.do(move)
        self.assertIs(type(caught.exception), NoMove)

    def refuses_place(self, yard, place):
        with self.assertRaises(NoPlace) as caught:
            yard.longer(place)
        self.assertIs(type(caught.exception), NoPlace)

    def gained_by_hand(self, shorter, lane, ways, stand):
        return len(set(reached(lane, ways, stand)) - set(reached(shorter, ways, stand)))


class Start(Case):
    def test_a_yard_is_as_it_is_handed_in(self):
        self.is_as(Yard(LANE, WAYS, STAND), LANE, WAYS, STAND, 0)

    def test_a_shut_one(self):
        self.is_as(Yard([0, 0], ["right", "left"], (("lane", 0), ("lane", 1))), [0, 0], ["right", "left"],
                   (("lane", 0), ("lane", 1)), 0)

    def test_all_out(self):
        yard = Yard([0], ["right", "left"], (OUT, OUT))
        self.is_as(yard, [0], ["right", "left"], (OUT, OUT), 0)
        self.assertEqual((yard.price(), yard.row(), yard.closed()), (0, [], None))

    def test_kinds(self):
        yard = Yard(LANE, WAYS, STAND)
        self.assertIs(type(yard.lane()), list)
        self.assertIs(type(yard.ways()), list)
        self.assertIs(type(yard.stand()), tuple)
        self.assertIs(type(yard.price()), int)
        self.assertIs(type(yard.row()), list)

    def test_two_yards_do_not_know_each_other(self):
        one, other = Yard(LANE, WAYS, STAND), Yard(LANE, WAYS, STAND)
        one.do(("go", 0))
        one.longer(0)
        self.is_as(other, LANE, WAYS, STAND, 0)


class Deeds(Case):
    def test_they_tell_none(self):
        yard = Yard(LANE, WAYS, STAND)
        self.assertIsNone(yard.do(("go", 0)))
        self.assertIsNone(yard.longer(0))

    def test_moves_until_all_are_out(self):
        yard, stand = Yard(LANE, WAYS, STAND), STAND
        for move in yard.row():
            left = yard.price()
            yard.do(move)
            stand = behind(LANE, WAYS, stand, move)
            self.is_as(yard, LANE, WAYS, stand, 0)
            self.assertEqual(yard.price(), left - 1)
        self.assertEqual(yard.stand(), (OUT,) * 3)
        for word in ("go", "aside", "on"):
            self.refuses_move(yard, (word, 0))

    def test_each_move_of_a_train(self):
        yard = Yard([0, 1], ["right"], (("lane", 0),))
        for move, spot in ((("go", 0), ("lane", 1)), (("aside", 0), ("side", 1)), (("on", 0), OUT)):
            yard.do(move)
            self.assertEqual(yard.stand(), (spot,))

    def test_a_move_that_shuts(self):
        lane, ways = [0, 1, 0, 0], ["right", "left"]
        yard = Yard(lane, ways, (("lane", 1), ("lane", 3)))
        self.assertIsNone(yard.closed())
        yard.do(("go", 0))
        self.is_as(yard, lane, ways, (("lane", 2), ("lane", 3)), 0)
        self.assertEqual((yard.price(), yard.row()), (None, None))
        self.assertEqual(yard.closed(), [(("lane", 2), ("lane", 3))])

    def test_sidings_get_longer_by_one_up_to_4(self):
        ways, stand = ["right", "left"], (("lane", 0), ("lane", 2))
        yard, lane = Yard([0, 3, 0], ways, stand), [0, 3, 0]
        for place in (1, 0, 0, 2, 0, 0):
            before = list(lane)
            lane[place] += 1
            yard.longer(place)
            self.is_as(yard, lane, ways, stand, self.gained_by_hand(before, lane, ways, stand))
        self.assertEqual(yard.lane(), [4, 4, 1])
        self.refuses_place(yard, 0)
        self.refuses_place(yard, 1)
        yard.longer(2)
        self.assertEqual(yard.lane(), [4, 4, 2])

    def test_a_longer_siding_that_brings_through(self):
        ways, stand = ["right", "left"], (("lane", 0), ("lane", 2))
        yard = Yard([0, 0, 0], ways, stand)
        self.assertIsNone(yard.price())
        self.assertIsNotNone(yard.closed())
        yard.longer(1)
        self.is_as(yard, [0, 1, 0], ways, stand, self.gained_by_hand([0, 0, 0], [0, 1, 0], ways, stand))
        self.assertEqual(yard.price(), 7)

    def test_a_move_that_only_the_longer_siding_lets_be(self):
        yard = Yard([0], ["right"], (("lane", 0),))
        self.refuses_move(yard, ("aside", 0))
        yard.longer(0)
        yard.do(("aside", 0))
        self.is_as(yard, [1], ["right"], (("side", 0),), 0)

    def test_moves_and_longer_sidings_one_behind_the_other(self):
        lane, stand = [0, 0, 0, 0], (("lane", 0), ("lane", 2), ("lane", 3))
        yard = Yard(lane, WAYS, stand)
        for word, value in (("do", ("go", 0)), ("longer", 1), ("longer", 1), ("do", ("aside", 0)), ("do", ("go", 1)),
                            ("longer", 0), ("do", ("go", 2)), ("longer", 2), ("do", ("go", 1)), ("do", ("go", 1))):
            before = list(lane)
            if word == "do":
                yard.do(value)
                stand = behind(lane, WAYS, stand, value)
                self.is_as(yard, lane, WAYS, stand, 0)
            else:
                yard.longer(value)
                lane[value] += 1
                self.is_as(yard, lane, WAYS, stand, self.gained_by_hand(before, lane, WAYS, stand))
        self.assertEqual((yard.lane(), yard.stand()), ([1, 2, 1, 0], (("side", 1), OUT, ("lane", 2))))


class Refusals(Case):
    def test_what_is_no_allowed_move(self):
        yard = Yard(LANE, WAYS, STAND)
        moves = (
            ("on", 0), ("aside", 0), ("aside", 1), ("go", 2), ("aside", 2), ("go", 3), ("go", -1), ("go", True),
            ("go", False), ("go", 0.0), ("go", "0"), ("Go", 0), ("go",), ("go", 0, 0), ["go", 0], "go", ("go", None),
            (["go"], 0), Hostile(), Yes(), Liar(tuple), (Hostile(), 0), ("go", Hostile()), ("go", Yes()), (Yes(), 0),
        )
        for move in list(moves) + any_things():
            self.refuses_move(yard, move)
        self.is_as(yard, LANE, WAYS, STAND, 0)

    def test_what_is_no_place(self):
        yard = Yard(LANE, WAYS, STAND)
        places = (-1, -4, 4, 5, 8, 10 ** 40, True, False, "0", "1", "", None, 0.0, 1.0, [0], (0,), (), {}, b"0", 1j,
                  Hostile(), Yes(), Liar(int), int, ("lane", 0), ("side", 1))
        for place in list(places) + any_things():
            self.refuses_place(yard, place)
        self.is_as(yard, LANE, WAYS, STAND, 0)

    def test_the_last_place_and_the_one_beyond(self):
        for many in range(1, 9):
            yard = Yard([0] * many, ["right"], (OUT,))
            self.refuses_place(yard, many)
            yard.longer(many - 1)
            yard.longer(0)
            self.assertEqual(yard.lane(), [2] if many == 1 else [1] + [0] * (many - 2) + [1])

    def test_a_siding_of_each_length(self):
        for held in range(5):
            yard = Yard([0, held], ["left"], (("lane", 0),))
            if held == 4:
                self.refuses_place(yard, 1)
                self.assertEqual(yard.lane(), [0, 4])
            else:
                yard.longer(1)
                self.assertEqual(yard.lane(), [0, held + 1])

    def test_a_refused_deed_changes_nothing_behind_others(self):
        yard = Yard([0, 4, 0], ["right", "left"], (("lane", 0), ("lane", 2)))
        yard.do(("go", 0))
        for place in (1, 3, -1, None):
            self.refuses_place(yard, place)
            self.is_as(yard, [0, 4, 0], ["right", "left"], (("lane", 1), ("lane", 2)), 0)
        for move in (("go", 0), ("go", 1), ("on", 0), None):
            self.refuses_move(yard, move)
            self.is_as(yard, [0, 4, 0], ["right", "left"], (("lane", 1), ("lane", 2)), 0)


class Gained(Case):
    def test_nothing_at_the_start(self):
        self.assertEqual(Yard([1, 1], ["right"], (("lane", 0),)).gained(), 0)

    def test_nothing_behind_a_move(self):
        yard = Yard([1, 1], ["right"], (("lane", 0),))
        yard.do(("go", 0))
        self.assertEqual(yard.gained(), 0)

    def test_a_siding_where_a_train_comes_by(self):
        # One stand more: with the train in it.
        yard = Yard([0, 0], ["right"], (("lane", 0),))
        yard.longer(1)
        self.assertEqual([yard.gained(), yard.gained()], [1, 1])

    def test_a_siding_at_the_trains_own_place(self):
        yard = Yard([0, 0], ["right"], (("lane", 0),))
        yard.longer(0)
        self.assertEqual(yard.gained(), 1)

    def test_a_siding_behind_the_train(self):
        yard = Yard([0, 0], ["left"], (("lane", 0),))
        yard.longer(1)
        self.assertEqual(yard.gained(), 0)

    def test_a_siding_with_room_enough_already(self):
        yard = Yard([0, 1], ["right"], (("lane", 0),))
        yard.longer(1)
        self.assertEqual(yard.gained(), 0)

    def test_only_that_of_the_last_deed(self):
        yard = Yard([0, 0], ["right"], (("lane", 0),))
        yard.longer(1)
        self.assertEqual(yard.gained(), 1)
        yard.longer(1)
        self.assertEqual(yard.gained(), 0)
        yard.longer(0)
        self.assertEqual(yard.gained(), 1)

    def test_nothing_more_behind_a_move_that_follows(self):
        yard = Yard([0, 0], ["right"], (("lane", 0),))
        yard.longer(1)
        yard.do(("go", 0))
        self.assertEqual(yard.gained(), 0)

    def test_two_that_meet(self):
        # Ahead of it three stands. Behind it also: those with one of them aside, and what comes of these.
        yard = Yard([0, 0, 0], ["right", "left"], (("lane", 0), ("lane", 2)))
        yard.longer(1)
        there = reached([0, 1, 0], ["right", "left"], (("lane", 0), ("lane", 2)))
        self.assertEqual(yard.gained(), len(there) - 3)

    def test_behind_a_refused_deed_it_is_as_before(self):
        yard = Yard([0, 0], ["right"], (("lane", 0),))
        yard.longer(1)
        for place in (2, -1, None, True):
            self.refuses_place(yard, place)
            self.assertEqual(yard.gained(), 1)
        for move in (("aside", 0), ("go", 1), None):
            self.refuses_move(yard, move)
            self.assertEqual(yard.gained(), 1)

    def test_behind_a_siding_that_is_refused_for_its_length(self):
        yard = Yard([3, 0], ["right"] * 4 + ["left"], (("side", 0),) * 3 + (("lane", 0), OUT))
        yard.longer(0)
        many = yard.gained()
        self.assertGreater(many, 0)
        self.refuses_place(yard, 0)
        self.assertEqual(yard.gained(), many)

    def test_asking_changes_nothing(self):
        yard = Yard([0, 0], ["right"], (("lane", 0),))
        yard.longer(1)
        for ask in (yard.price, yard.row, yard.closed, yard.lane, yard.ways, yard.stand, yard.gained):
            ask()
            self.assertEqual(yard.gained(), 1)


class Own(Case):
    def test_what_was_handed_in_is_as_before(self):
        lane, ways = list(LANE), list(WAYS)
        yard = Yard(lane, ways, STAND)
        yard.do(("go", 0))
        yard.longer(0)
        self.refuses_move(yard, ("go", 0))
        self.refuses_place(yard, 3)
        for ask in (yard.price, yard.row, yard.closed, yard.gained):
            ask()
        self.assertEqual((lane, ways), (LANE, WAYS))

    def test_changing_what_was_handed_in_changes_nothing(self):
        lane, ways = list(LANE), list(WAYS)
        yard = Yard(lane, ways, STAND)
        lane[0] = 4
        ways[0] = "left"
        self.is_as(yard, LANE, WAYS, STAND, 0)
        lane.clear()
        ways.clear()
        self.is_as(yard, LANE, WAYS, STAND, 0)
        yard.longer(0)
        self.is_as(yard, [1, 1, 0, 4], WAYS, STAND, self.gained_by_hand(LANE, [1, 1, 0, 4], WAYS, STAND))

    def test_changing_what_was_told_changes_nothing(self):
        yard = Yard([0, 0], ["right", "left"], (("lane", 0), ("lane", 1)))
        yard.longer(0)
        open_row = len(yard.row())
        for ask in (yard.lane, yard.ways, yard.row):
            for change in (list.clear, list.reverse, list.pop, lambda told: told.append(None)):
                change(ask())
                self.is_as(yard, [1, 0], ["right", "left"], (("lane", 0), ("lane", 1)), yard.gained())
                self.assertEqual(len(yard.row()), open_row)
        shut = Yard([0, 0], ["right", "left"], (("lane", 0), ("lane", 1)))
        for change in (list.clear, list.pop, lambda told: told.append(None)):
            change(shut.closed())
            self.is_as(shut, [0, 0], ["right", "left"], (("lane", 0), ("lane", 1)), 0)

    def test_changing_the_empty_row_changes_nothing(self):
        yard = Yard([0], ["right"], (OUT,))
        yard.row().append(("go", 0))
        self.assertEqual((yard.row(), yard.price()), ([], 0))

    def test_deeds_do_not_change_what_was_told(self):
        yard = Yard([0, 0, 0], ["right", "left"], (("lane", 0), ("lane", 2)))
        lane, ways, stand, stands = yard.lane(), yard.ways(), yard.stand(), yard.closed()
        before = list(stands)
        yard.do(("go", 0))
        yard.longer(1)
        row = yard.row()
        moves = list(row)
        yard.do(("aside", 0))
        yard.longer(1)
        self.assertEqual((lane, ways, stand), ([0, 0, 0], ["right", "left"], (("lane", 0), ("lane", 2))))
        self.assertEqual((stands, row), (before, moves))


class Names(unittest.TestCase):
    def test_the_class_and_each_of_its_methods_are_defined_in_this_file(self):
        self.assertEqual(Yard.__module__, "sidinglane.yard")
        for name in ("lane", "ways", "stand", "do", "longer", "price", "row", "closed", "gained"):
            self.assertIn(name, Yard.__dict__)

    def test_the_arguments_have_their_names(self):
        yard = Yard(lane=[0], ways=["right"], stand=(("lane", 0),))
        self.assertIsNone(yard.longer(place=0))
        self.assertIsNone(yard.do(move=("go", 0)))
        self.assertEqual(yard.stand(), (OUT,))


if __name__ == "__main__":
    unittest.main()
