"""Point 4: which moves are allowed, and the stand behind one."""

import unittest

from sidinglane.errors import NoMove
from sidinglane.moves import allowed, behind
from tests.things import Hostile, Liar, Yes, any_things, small_stands

OUT = ("out",)


def spot_by_hand(lane, way, stand, train, word):
    """The spot to which a move leads a train, or None; told apart from the program's own way."""
    taken = {spot[1] for spot in stand if spot[0] == "lane"}
    spot = stand[train]
    if spot == OUT or (word == "on") != (spot[0] == "side"):
        return None
    if word == "aside":
        within = [other for other in stand if other == ("side", spot[1])]
        return ("side", spot[1]) if len(within) + 1 <= lane[spot[1]] else None
    ahead = {"right": spot[1] + 1, "left": spot[1] - 1}[way]
    if ahead in taken:
        return None
    return ("lane", ahead) if ahead in range(len(lane)) else OUT


class Case(unittest.TestCase):
    def refuses(self, lane, ways, stand, *moves):
        for move in moves:
            with self.assertRaises(NoMove) as caught:
                behind(lane, ways, stand, move)
            self.assertIs(type(caught.exception), NoMove)

    def leads(self, lane, ways, stand, table):
        """Just these moves are allowed, in this order, and they lead to these stands."""
        self.assertEqual(allowed(lane, ways, stand), list(table))
        for move, then in table.items():
            self.assertEqual(behind(lane, ways, stand, move), then)
        for train in range(len(ways)):
            for word in ("go", "aside", "on"):
                if (word, train) not in table:
                    self.refuses(lane, ways, stand, (word, train))


class Go(Case):
    def test_to_the_next_place_of_its_way(self):
        self.leads([0] * 3, ["right"], (("lane", 0),), {("go", 0): (("lane", 1),)})
        self.leads([0] * 3, ["right"], (("lane", 1),), {("go", 0): (("lane", 2),)})
        self.leads([0] * 3, ["left"], (("lane", 2),), {("go", 0): (("lane", 1),)})
        self.leads([0] * 3, ["left"], (("lane", 1),), {("go", 0): (("lane", 0),)})

    def test_beyond_either_end_it_is_out(self):
        for many in (1, 2, 8):
            self.leads([0] * many, ["right"], (("lane", many - 1),), {("go", 0): (OUT,)})
            self.leads([0] * many, ["left"], (("lane", 0),), {("go", 0): (OUT,)})

    def test_at_the_other_end_it_goes_on(self):
        self.leads([0] * 8, ["right"], (("lane", 0),), {("go", 0): (("lane", 1),)})
        self.leads([0] * 8, ["left"], (("lane", 7),), {("go", 0): (("lane", 6),)})

    def test_out_where_others_are_out_already(self):
        stand = (OUT, ("lane", 0), OUT, OUT, OUT, OUT)
        self.leads([0], ["right", "left"] * 3, stand, {("go", 1): (OUT,) * 6})

    def test_not_to_a_place_that_is_taken(self):
        self.leads([0, 0], ["right", "left"], (("lane", 0), ("lane", 1)), {})
        self.leads(
            [0, 0], ["right", "right"], (("lane", 0), ("lane", 1)), {("go", 1): (("lane", 0), OUT)},
        )
        self.leads(
            [0, 0], ["left", "left"], (("lane", 0), ("lane", 1)), {("go", 0): (OUT, ("lane", 1))},
        )

    def test_a_train_behind_does_not_hinder(self):
        self.leads(
            [0, 0], ["left", "right"], (("lane", 0), ("lane", 1)),
            {("go", 0): (OUT, ("lane", 1)), ("go", 1): (("lane", 0), OUT)},
        )

    def test_a_train_in_the_next_places_siding_does_not_hinder(self):
        stand = (("lane", 0), ("side", 1))
        self.leads(
            [0, 1], ["right", "right"], stand,
            {("go", 0): (("lane", 1), ("side", 1)), ("on", 1): (("lane", 0), OUT)},
        )

    def test_a_train_at_the_place_but_one_does_not_hinder(self):
        stand = (("lane", 0), ("lane", 2))
        self.leads(
            [0] * 3, ["right", "left"], stand,
            {("go", 0): (("lane", 1), ("lane", 2)), ("go", 1): (("lane", 0), ("lane", 1))},
        )

    def test_not_from_a_siding_and_not_from_out(self):
        self.refuses([1, 0], ["right"], (("side", 0),), ("go", 0))
        self.refuses([1, 0], ["right", "left"], (OUT, ("lane", 0)), ("go", 0))


class Aside(Case):
    def test_into_a_siding_with_room(self):
        for held in range(1, 5):
            for within in range(0, held):
                ways = ["right"] * (within + 1)
                stand = (("side", 1),) * within + (("lane", 1),)
                move = ("aside", within)
                self.assertIn(move, allowed([0, held], ways, stand))
                self.assertEqual(behind([0, held], ways, stand, move), (("side", 1),) * (within + 1))

    def test_not_into_a_full_one(self):
        for held in range(1, 5):
            ways = ["right"] * (held + 1)
            stand = (("side", 1),) * held + (("lane", 1),)
            self.assertNotIn(("aside", held), allowed([4, held], ways, stand))
            self.refuses([4, held], ways, stand, ("aside", held))

    def test_not_where_there_is_none(self):
        self.leads([0, 4], ["right"], (("lane", 0),), {("go", 0): (("lane", 1),)})
        self.leads([4, 0, 4], ["left"], (("lane", 1),), {("go", 0): (("lane", 0),)})

    def test_at_the_first_and_the_last_place(self):
        for many in (1, 2, 8):
            for place in (0, many - 1):
                lane = [0] * many
                lane[place] = 1
                for way in ("right", "left"):
                    stand = (("lane", place),)
                    self.assertIn(("aside", 0), allowed(lane, [way], stand))
                    self.assertEqual(behind(lane, [way], stand, ("aside", 0)), (("side", place),))

    def test_where_the_next_place_is_taken(self):
        self.leads(
            [0, 1], ["right", "left"], (("lane", 0), ("lane", 1)), {("aside", 1): (("lane", 0), ("side", 1))},
        )

    def test_others_in_other_sidings_do_not_count(self):
        stand = (("lane", 0), ("side", 1))
        self.leads(
            [1, 1], ["left", "left"], stand,
            {("go", 0): (OUT, ("side", 1)), ("aside", 0): (("side", 0), ("side", 1))},
        )

    def test_not_from_a_siding_and_not_from_out(self):
        self.refuses([4, 4], ["right"], (("side", 0),), ("aside", 0))
        self.refuses([4, 4], ["right"], (OUT,), ("aside", 0))


class On(Case):
    def test_to_the_next_place_of_its_way(self):
        self.leads([1] * 3, ["right"], (("side", 0),), {("on", 0): (("lane", 1),)})
        self.leads([1] * 3, ["right"], (("side", 1),), {("on", 0): (("lane", 2),)})
        self.leads([1] * 3, ["left"], (("side", 2),), {("on", 0): (("lane", 1),)})
        self.leads([1] * 3, ["left"], (("side", 1),), {("on", 0): (("lane", 0),)})

    def test_beyond_either_end_it_is_out(self):
        for many in (1, 2, 8):
            self.leads([1] * many, ["right"], (("side", many - 1),), {("on", 0): (OUT,)})
            self.leads([1] * many, ["left"], (("side", 0),), {("on", 0): (OUT,)})

    def test_not_to_a_place_that_is_taken(self):
        self.leads(
            [1, 0], ["right", "right"], (("side", 0), ("lane", 1)), {("go", 1): (("side", 0), OUT)},
        )
        self.leads(
            [0, 1], ["left", "left"], (("lane", 0), ("side", 1)), {("go", 0): (OUT, ("side", 1))},
        )

    def test_a_train_at_its_own_place_of_the_lane_does_not_hinder(self):
        self.leads(
            [1, 0], ["right", "left"], (("side", 0), ("lane", 0)),
            {("on", 0): (("lane", 1), ("lane", 0)), ("go", 1): (("side", 0), OUT)},
        )

    def test_each_of_several_in_one_siding(self):
        stand = (("side", 1), ("side", 1), ("side", 1))
        self.leads(
            [0, 3, 0], ["right", "left", "right"], stand,
            {
                ("on", 0): (("lane", 2), ("side", 1), ("side", 1)),
                ("on", 1): (("side", 1), ("lane", 0), ("side", 1)),
                ("on", 2): (("side", 1), ("side", 1), ("lane", 2)),
            },
        )

    def test_not_from_the_lane_and_not_from_out(self):
        self.refuses([1, 1], ["right"], (("lane", 0),), ("on", 0))
        self.refuses([1, 1], ["left"], (("lane", 0),), ("on", 0))
        self.refuses([1, 1], ["right"], (OUT,), ("on", 0))


class Order(Case):
    def test_by_the_trains_numbers_a_go_ahead_of_an_aside(self):
        stand = (("lane", 4), ("side", 1), ("lane", 0), OUT, ("lane", 2), ("lane", 3))
        ways = ["right", "left", "left", "right", "right", "left"]
        self.assertEqual(
            allowed([1, 1, 2, 0, 1], ways, stand),
            [("go", 0), ("aside", 0), ("go", 2), ("aside", 2), ("aside", 4)],
        )

    def test_the_same_train_by_train_whatever_their_places(self):
        for ways in (["right", "left"], ["left", "right"]):
            self.assertEqual(
                allowed([1] * 6, ways, (("lane", 4), ("lane", 1))),
                [("go", 0), ("aside", 0), ("go", 1), ("aside", 1)],
            )

    def test_a_train_that_is_out_has_none(self):
        self.leads([4], ["right"], (OUT,), {})
        self.leads([4] * 8, ["right", "left"] * 3, (OUT,) * 6, {})
        self.leads([0], ["right", "left"], (OUT, ("lane", 0)), {("go", 1): (OUT, OUT)})

    def test_no_move_at_all_though_not_all_are_out(self):
        self.leads([0, 0, 0], ["right", "left", "left"], (("lane", 0), ("lane", 1), OUT), {})

    def test_the_greatest_lane_and_all_trains(self):
        ways = ["right"] * 3 + ["left"] * 3
        stand = tuple(("lane", place) for place in (0, 2, 4, 7, 5, 3))
        self.assertEqual(
            allowed([4] * 8, ways, stand),
            [
                ("go", 0), ("aside", 0), ("aside", 1), ("aside", 2),
                ("go", 3), ("aside", 3), ("aside", 4), ("aside", 5),
            ],
        )


class Kinds(Case):
    def test_a_list_of_tuples_of_a_text_and_a_number(self):
        moves = allowed([1, 0], ["right", "left"], (("lane", 0), ("lane", 1)))
        self.assertIs(type(moves), list)
        for move in allowed([1, 1, 1], ["right", "left"], (("lane", 0), ("side", 1))):
            self.assertIs(type(move), tuple)
            self.assertEqual([type(part) for part in move], [str, int])

    def test_a_stand_is_a_tuple_of_tuples(self):
        stand = (("lane", 0), ("side", 1), ("lane", 1), OUT)
        ways = ["left", "right", "left", "left"]
        for move in allowed([1, 2], ways, stand):
            then = behind([1, 2], ways, stand, move)
            self.assertIs(type(then), tuple)
            for spot in then:
                self.assertIs(type(spot), tuple)
                self.assertEqual([type(part) for part in spot], [str, int][:len(spot)])

    def test_none_is_an_empty_list(self):
        self.assertEqual(allowed([0], ["right"], (OUT,)), [])

    def test_the_functions_are_defined_in_this_file(self):
        for function in (allowed, behind):
            self.assertEqual(function.__module__, "sidinglane.moves")

    def test_the_arguments_have_their_names(self):
        stand = (("lane", 0),)
        self.assertEqual(allowed(lane=[0], ways=["right"], stand=stand), [("go", 0)])
        self.assertEqual(behind(lane=[0], ways=["right"], stand=stand, move=("go", 0)), (OUT,))


class NoMoves(Case):
    # Both trains may go, and both aside, so that only the form of a move is wrong.
    LANE = [2, 0, 0, 2]
    WAYS = ["right", "left"]
    STAND = (("lane", 0), ("lane", 3))

    def each_is_none(self, *moves):
        self.refuses(self.LANE, self.WAYS, self.STAND, *moves)

    def test_what_is_right_is_allowed(self):
        self.assertEqual(
            allowed(self.LANE, self.WAYS, self.STAND), [("go", 0), ("aside", 0), ("go", 1), ("aside", 1)],
        )

    def test_a_move_put_together_by_a_run(self):
        for move in (("go", 1), ("aside", 1)):
            told = tuple(["".join(list(move[0])), len("x")])
            self.assertEqual(
                behind(self.LANE, self.WAYS, self.STAND, told), behind(self.LANE, self.WAYS, self.STAND, move),
            )

    def test_other_words(self):
        for train in (0, 1):
            for word in ("", "Go", "GO", "go ", " go", "g", "gone", "side", "lane", "out", "asid", "Aside", "goaside"):
                self.each_is_none((word, train))

    def test_words_that_are_no_texts(self):
        for word in (None, 0, True, b"go", ["go"], ("go",), {"go": 0}, Hostile(), Yes(), Liar(str)):
            self.each_is_none((word, 0), (word, 1))

    def test_other_numbers(self):
        for train in (-1, -2, -3, 2, 3, 6, 10 ** 40, -(10 ** 40)):
            self.each_is_none(("go", train), ("aside", train), ("on", train))

    def test_no_numbers(self):
        for train in (True, False, None, 0.0, 1.0, "0", "1", b"1", [0], (0,), 0j, Hostile(), Yes(), Liar(int)):
            self.each_is_none(("go", train), ("aside", train), ("on", train))

    def test_other_lengths(self):
        self.each_is_none(
            (), ("go",), (0,), ("go", 0, 0), ("go", 0, None), ("go", 0, 1, 1), ("go", "go", 0), ("go", 0) * 3,
        )

    def test_other_kinds(self):
        self.each_is_none(
            ["go", 0], ["aside", 1], "go", "g0", "go0", None, 0, 1, True, {"go": 0}, {0: "go", 1: 0}, {"go", 0},
            b"go", iter(("go", 0)), (0, "go"), (("go", 0),), [("go", 0)], (("go", 0), ("go", 1)),
            Hostile(), Yes(), Liar(tuple),
        )

    def test_any_thing(self):
        for thing in any_things():
            self.each_is_none(thing, ("go", thing), (thing, 0), (thing, thing))

    def test_where_nothing_is_allowed(self):
        for move in (("go", 0), ("aside", 0), ("on", 0), None, [], ("go", 1)):
            self.refuses([4], ["right"], (OUT,), move)


class SmallStands(Case):
    def test_all_moves_of_all_of_them(self):
        for lane, ways, stand in small_stands():
            table = {}
            for train, way in enumerate(ways):
                for word in ("go", "on", "aside"):
                    spot = spot_by_hand(lane, way, stand, train, word)
                    if spot is not None:
                        table[word, train] = stand[:train] + (spot,) + stand[train + 1:]
            self.leads(lane, ways, stand, table)


if __name__ == "__main__":
    unittest.main()
