"""The whole's own calls, point 4: changes taken back and done again, and what is a change."""

import unittest

from tests.helper import CHANGES, CIRCLE, CIRCLE_BACK, FOUR, NUMBERS, SEVEN, STAGES, ask, last

START = ("start",)
# Four players of whom 3 beat 0, and one player.
BEGIN = (START, ("league", 4), ("one_games", 0, FOUR), ("league", 1))
WHOLE_STATE = (("state",), ("one_state", 0), ("one_state", 1), ("one_state", 2))

# Each kind of change, behind BEGIN.
KINDS = (
    ("league", 2), ("copy", 0), ("drop", 0), ("joined", 0, 1), ("into", 0, 1), ("without", 0, 2),
    ("one_start", 0, 7), ("one_games", 0, 9), ("one_turn", 0, 1, 2),
    ("two_start", 0, 6), ("two_games", 0, 1), ("two_turn", 0, 3, 0), ("two_make", 0, [3, 2, 1, 0]),
    ("two_turnThree", 0, 1), ("three_start", 1, 3), ("three_games", 0, 63), ("three_turn", 0, 0, 2),
    ("four_start", 0, 2), ("four_games", 0, 7), ("four_turn", 0, 0, 1), ("five_start", 1, 7), ("five_games", 0, 32),
    ("five_turn", 0, 2, 3), ("five_squares", 1, 7), ("six_start", 0, 6), ("six_games", 0, 33), ("six_turn", 0, 1, 3),
    ("six_rename", 0, [1, 0, 2, 3]), ("six_back", 0),
)
# Changes after which all is as it was, behind BEGIN and a start of league 0 with 3 players.
SAME_AGAIN = (
    ("one_start", 0, 3), ("two_start", 0, 3), ("three_start", 0, 3), ("one_games", 0, 0), ("two_games", 0, 0),
    ("three_games", 0, 0), ("two_make", 0, [2, 1, 0]), ("one_start", 1, 1), ("one_games", 1, 0),
    ("four_start", 0, 3), ("five_start", 0, 3), ("six_start", 0, 3), ("four_games", 0, 0), ("five_games", 0, 0),
    ("six_games", 0, 0), ("six_rename", 0, [0, 1, 2]), ("six_rename", 1, [0]), ("six_back", 1),
)
# Calls that are refused behind BEGIN.
REFUSED = (
    ("league", 0), ("league", 8), ("copy", 2), ("drop", 2), ("joined", 0, 0), ("joined", 0, 2), ("into", 0, 0),
    ("into", 2, 0), ("without", 0, 4), ("without", 1, 0), ("one_start", 0, 0), ("one_start", 2, 3),
    ("one_games", 0, 64), ("one_turn", 0, 1, 1), ("one_turn", 0, 0, 4), ("two_start", 0, 8), ("two_games", 0, 64),
    ("two_turn", 0, 2, 2), ("two_make", 0, [3, 3, 0, 0]), ("two_make", 0, [1, 1, 1]), ("two_turnThree", 0, 2),
    ("three_start", 1, 0), ("three_games", 1, 1), ("three_turn", 1, 0, 0), ("four_start", 0, 8), ("four_games", 0, 64),
    ("four_turn", 0, 3, 4), ("five_start", 2, 3), ("five_games", 0, 64), ("five_turn", 0, 3, 3), ("five_squares", 0, 0),
    ("five_squares", 0, 4), ("five_squares", 2, 3), ("six_start", 0, 7), ("six_start", 0, 0), ("six_games", 0, 64),
    ("six_turn", 0, 0, 0), ("six_rename", 0, []), ("six_rename", 0, [0, 1, 2]), ("six_rename", 0, [0, 1, 2, 2]),
    ("six_rename", 2, [0]), ("six_back", 2),
)
# Calls that ask and change nothing.
ASKING = (
    ("sameTable", 0, 0), ("alike", 0, 0), ("differ", 0, 0), ("state",), ("one_beats", 0, 0, 1), ("one_wins", 0, 0),
    ("one_row", 0), ("one_rows", 0), ("one_nth", 0, 0), ("one_isRow", 0, [3, 2, 1, 0]), ("one_comes", 0, 0, 1),
    ("one_part", 0, 0), ("one_parts", 0), ("one_strong", 0), ("one_rounds", 0, 0, 3), ("one_round", 0, 0, 3),
    ("one_begins", 0, 0), ("one_between", 0, 0, 1), ("one_state", 0), ("two_beats", 0, 0, 1), ("two_wins", 0, 0),
    ("two_table", 0), ("two_can", 0, [0]), ("two_beyond", 0, 1, [0]), ("two_many", 0, [0]), ("two_threes", 0),
    ("two_three", 0, 0), ("two_differ", 0, 1), ("two_turns", 0, 1), ("two_same", 0, 1), ("two_rank", 0, 0),
    ("two_state", 0), ("three_beats", 0, 0, 1), ("three_wins", 0, 0), ("three_threes", 0), ("three_nth", 0, 0),
    ("three_of", 0, 0), ("three_through", 0, 0, 1), ("three_would", 0, 0, 1), ("three_byWins", 0, [0]),
    ("three_most", 0, 5), ("three_level", 0), ("three_calm", 0), ("three_fours", 0), ("three_within", 0, [0, 1, 3]),
    ("three_busiest", 0), ("three_state", 0), ("four_beats", 0, 0, 1), ("four_wins", 0, 0), ("four_inOrder", 0, 7),
    ("four_order", 0, 7), ("four_most", 0), ("four_best", 0), ("four_many", 0, 2), ("four_grown", 0),
    ("four_among", 0, 0), ("four_leave", 0), ("four_all", 0), ("four_adds", 0, 1), ("four_sure", 0, 5),
    ("four_state", 0), ("five_beats", 0, 0, 1), ("five_wins", 0, 0), ("five_covers", 0, 1), ("five_left", 0, 1),
    ("five_fewest", 0), ("five_first", 0), ("five_many", 0), ("five_greedy", 0), ("five_over", 0, 1),
    ("five_any", 0, 1), ("five_deep", 0), ("five_needs", 0, 3), ("five_bare", 0), ("five_state", 0),
    ("six_beats", 0, 0, 1), ("six_wins", 0, 0), ("six_selves", 0), ("six_nth", 0, 0), ("six_order", 0, 0),
    ("six_alikeTo", 0, 0), ("six_same", 0, 0, 1), ("six_alike", 0, FOUR), ("six_least", 0), ("six_backAlike", 0),
    ("six_others", 0), ("six_classes", 0), ("six_state", 0),
)


class EachKind(unittest.TestCase):
    def test_all_kinds_are_here(self):
        self.assertEqual(sorted(CHANGES), sorted(call[0] for call in KINDS))
        rest = sorted(set(NUMBERS) - set(CHANGES) - {"start", "undo", "redo"})
        self.assertEqual(rest, sorted(call[0] for call in ASKING))

    def test_taken_back_and_done_again(self):
        for change in KINDS:
            with self.subTest(change=change):
                told = ask(*BEGIN, *WHOLE_STATE, change, *WHOLE_STATE, ("undo",), *WHOLE_STATE, ("redo",), *WHOLE_STATE)
                before, after, back, again = told[4:8], told[9:13], told[14:18], told[19:23]
                self.assertGreaterEqual(told[8][0], 0)
                self.assertEqual(after[0][1:3], [4, 0])
                self.assertNotEqual(after[1:], before[1:])
                self.assertEqual(told[13], [3])
                self.assertEqual(back[0], [2, 3, 1, 4, 1])
                self.assertEqual(back[1:], before[1:])
                self.assertEqual(told[18], [0])
                self.assertEqual(again, after)

    def test_a_change_after_which_all_is_as_it_was(self):
        for change in SAME_AGAIN:
            with self.subTest(change=change):
                told = ask(*BEGIN, ("one_start", 0, 3), change, ("state",), ("one_state", 0), ("undo",), ("state",),
                           ("one_state", 0), ("undo",), ("one_state", 0))
                self.assertEqual(told[6:], [[2, 5, 0, 3, 1], [3, 0], [4], [2, 4, 1, 3, 1], [3, 0], [3], [4, FOUR]])

    def test_squares_where_it_is_by_squares_is_a_change_too(self):
        for players, number in ((3, CIRCLE), (7, SEVEN)):
            told = ask(START, ("league", players), ("one_games", 0, number), ("five_squares", 0, players), ("state",),
                       ("undo",), ("one_state", 0), ("undo",), ("one_state", 0), ("redo",), ("redo",), ("one_state", 0))
            self.assertEqual(told[3:], [[number], [1, 3, 0, players], [2], [players, number], [1], [players, 0], [1],
                                        [0], [players, number]])

    def test_a_way_into_itself_is_a_change_too(self):
        told = ask(START, ("league", 3), ("one_games", 0, CIRCLE), ("six_rename", 0, [1, 2, 0]), ("state",), ("undo",),
                   ("six_back", 0), ("six_back", 0), ("state",), ("undo",), ("six_state", 0))
        self.assertEqual(told[3:], [[CIRCLE], [1, 3, 0, 3], [2], [CIRCLE_BACK], [CIRCLE], [1, 4, 0, 3], [3],
                                    [3, CIRCLE_BACK]])

    def test_a_change_after_which_all_is_as_it_was_leaves_nothing_to_do_again(self):
        for change in SAME_AGAIN:
            with self.subTest(change=change):
                told = ask(*BEGIN, ("one_start", 0, 3), ("league", 2), ("undo",), change, ("redo",), ("state",))
                self.assertEqual(told[8:], [[-6], [2, 5, 0, 3, 1]])

    def test_what_is_refused_is_no_change(self):
        for call in REFUSED:
            with self.subTest(call=call):
                told = ask(*BEGIN, ("league", 2), ("undo",), call, *WHOLE_STATE, ("redo",))
                self.assertLess(told[6][0], 0)
                self.assertEqual(told[7:], [[2, 3, 1, 4, 1], [4, FOUR], [1, 0], [-2], [0]])

    def test_what_six_refuses_of_seven_players_is_no_change(self):
        for call in (("six_start", 0, 3), ("six_games", 0, 0), ("six_turn", 0, 0, 1), ("six_back", 0),
                     ("six_rename", 0, [6, 5, 4, 3, 2, 1, 0])):
            told = ask(START, ("league", 7), ("five_squares", 0, 7), ("league", 2), ("undo",), call, ("state",),
                       ("redo",), ("one_state", 0))
            self.assertEqual(told[5:], [[-28], [1, 2, 1, 7], [0], [7, SEVEN]], call)

    def test_a_league_too_many_is_no_change(self):
        four = BEGIN + (("league", 2), ("league", 2), ("league", 3), ("state",))
        self.assertEqual(ask(*four)[-2:], [[-28], [4, 5, 0, 4, 1, 2, 2]])
        for call in (("copy", 1), ("joined", 1, 1), ("into", 1, 1), ("without", 0, 0)):
            told = ask(*BEGIN, ("league", 2), ("league", 2), ("one_turn", 3, 0, 1), ("undo",), call, ("state",))
            self.assertEqual(told[-2:], [[-28], [4, 5, 1, 4, 1, 2, 2]], call)

    def test_what_asks_is_no_change(self):
        for call in ASKING:
            with self.subTest(call=call):
                told = ask(*BEGIN, ("league", 2), ("undo",), call, *WHOLE_STATE, ("redo",))
                self.assertEqual(told[7:], [[2, 3, 1, 4, 1], [4, FOUR], [1, 0], [-2], [0]])


class TakenBack(unittest.TestCase):
    def test_nothing_to_take_back_or_do_again(self):
        self.assertEqual(ask(START, ("undo",), ("redo",)), [[0], [-6], [-6]])
        told = ask(START, ("league", 3), ("redo",), ("undo",), ("undo",), ("redo",), ("redo",))
        self.assertEqual(told[2:], [[-6], [0], [-6], [0], [-6]])

    def test_several_one_by_one(self):
        told = ask(START, ("league", 3), ("one_games", 0, CIRCLE), ("drop", 0), ("undo",), ("one_state", 0), ("undo",),
                   ("one_state", 0), ("undo",), ("state",), ("redo",), ("one_state", 0), ("redo",), ("one_state", 0),
                   ("redo",), ("state",))
        self.assertEqual(told[4:], [[2], [3, CIRCLE], [1], [3, 0], [0], [0, 0, 3], [2], [3, 0], [1], [3, CIRCLE], [0],
                                    [0, 3, 0]])

    def test_a_change_in_another_league(self):
        told = ask(START, ("league", 3), ("league", 3), ("one_games", 0, 1), ("one_games", 1, 7), ("undo",),
                   ("one_state", 0), ("one_state", 1), ("undo",), ("one_state", 0), ("one_state", 1), ("redo",),
                   ("one_state", 0), ("one_state", 1))
        self.assertEqual(told[5:], [[3], [3, 1], [3, 0], [2], [3, 0], [3, 0], [1], [3, 1], [3, 0]])

    def test_changes_of_each_stage_in_two_leagues(self):
        changes = [("five_squares", 0, 3), ("six_rename", 1, [1, 0]), ("six_back", 0), ("four_turn", 1, 0, 1),
                   ("three_games", 0, 6), ("five_start", 1, 3), ("six_start", 0, 1), ("two_games", 1, 4)]
        states = [[3, 0], [3, 2], [3, 2], [3, 5], [3, 5], [3, 6], [3, 6], [1, 0], [1, 0]]
        others = [[2, 0], [2, 0], [2, 1], [2, 1], [2, 0], [2, 0], [3, 0], [3, 0], [3, 4]]
        both = [("six_state", 0), ("five_state", 1)]
        line = [START, ("league", 3), ("league", 2)] + changes + both
        for change in changes:
            line += [("undo",)] + both
        for change in changes:
            line += [("redo",)] + both
        told = ask(*line)[11:]
        self.assertEqual(told[0::3], states[::-1] + states[1:])
        self.assertEqual(told[1::3], others[::-1] + others[1:])
        self.assertEqual(told[2::3], [[k] for k in range(9, 1, -1)] + [[k] for k in range(7, -1, -1)])

    def test_a_drop_gives_back_the_numbers_behind_it(self):
        told = ask(START, ("league", 1), ("league", 2), ("league", 3), ("drop", 0), ("undo",), ("state",), ("redo",),
                   ("state",))
        self.assertEqual(told[4:], [[1], [3], [3, 3, 1, 1, 2, 3], [0], [2, 4, 0, 2, 3]])

    def test_a_new_change_leaves_nothing_to_do_again(self):
        told = ask(START, ("league", 1), ("league", 2), ("undo",), ("league", 3), ("redo",), ("state",), ("undo",),
                   ("state",), ("redo",), ("state",))
        self.assertEqual(told[4:], [[1, 3, 0], [-6], [2, 2, 0, 1, 3], [1], [1, 1, 1, 1], [0], [2, 2, 0, 1, 3]])

    def test_what_was_done_again_can_be_taken_back(self):
        told = ask(START, ("league", 1), ("undo",), ("redo",), ("undo",), ("state",), ("redo",), ("state",))
        self.assertEqual(told[4:], [[0], [0, 0, 1], [0], [1, 1, 0, 1]])

    def test_a_start_leaves_nothing_to_take_back(self):
        told = ask(START, ("league", 1), ("league", 1), ("undo",), START, ("undo",), ("redo",), ("state",))
        self.assertEqual(told[5:], [[-6], [-6], [0, 0, 0]])


class Twenty(unittest.TestCase):
    def test_twenty_are_all_taken_back(self):
        turns = [("one_turn", 0, 0, 1)] * 19
        told = ask(START, ("league", 2), *turns, ("state",), *[("undo",)] * 21, ("state",))
        self.assertEqual(told[20], [1])
        self.assertEqual(told[21], [1, 20, 0, 2])
        self.assertEqual(told[22:42], [[k] for k in range(19, -1, -1)])
        self.assertEqual(told[42:], [[-6], [0, 0, 20]])

    def test_of_more_only_the_last_twenty(self):
        numbers = [("one_games", 0, m) for m in range(1, 31)]
        told = ask(START, ("league", 4), *numbers, ("state",), *[("undo",)] * 20, ("one_state", 0), ("undo",),
                   ("state",), *[("redo",)] * 20, ("one_state", 0), ("redo",), ("state",))
        self.assertEqual(told[32], [1, 20, 0, 4])
        self.assertEqual(told[33:53], [[k] for k in range(19, -1, -1)])
        self.assertEqual(told[53:56], [[4, 10], [-6], [1, 0, 20, 4]])
        self.assertEqual(told[56:76], [[k] for k in range(19, -1, -1)])
        self.assertEqual(told[76:], [[4, 30], [-6], [1, 20, 0, 4]])

    def test_of_more_of_any_stage_only_the_last_twenty(self):
        # 15 changes three times over: the first 25 of the 45 cannot be taken back.
        kinds = [(f"{stage}_{name}", 0, *given) for stage in STAGES
                 for name, given in (("games", (9,)), ("turn", (0, 1)))]
        kinds += [("five_squares", 0, 3), ("six_start", 0, 4), ("six_back", 0)]
        self.assertEqual(len(kinds), 15)
        changes = kinds * 3
        before = ask(START, ("league", 4), *changes[:25], ("six_state", 0))[-1]
        told = ask(START, ("league", 4), *changes, ("six_state", 0), *[("undo",)] * 21, ("six_state", 0),
                   *[("redo",)] * 21, ("six_state", 0), ("state",))
        self.assertEqual([answer for answer in told[:47] if answer[0] < 0], [])
        self.assertEqual(told[48:69], [[k] for k in range(19, -1, -1)] + [[-6]])
        self.assertEqual(told[69], before)
        self.assertEqual(told[70:91], [[k] for k in range(19, -1, -1)] + [[-6]])
        self.assertEqual(told[91:], [told[47], [1, 20, 0, 4]])

    def test_twenty_one(self):
        turns = [("one_turn", 0, 0, 1)] * 20
        told = ask(START, ("league", 2), *turns, *[("undo",)] * 21, ("one_state", 0))
        self.assertEqual(told[22:], [[k] for k in range(19, -1, -1)] + [[-6], [2, 0]])

    def test_what_fell_out_does_not_come_back(self):
        numbers = [("one_games", 0, m) for m in range(1, 25)]
        told = last(START, ("league", 4), *numbers, *[("undo",)] * 5, ("one_games", 0, 60), ("state",))
        self.assertEqual(told, [1, 16, 0, 4])


if __name__ == "__main__":
    unittest.main()
