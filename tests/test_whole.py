"""The whole's own calls, points 1 to 3: leagues side by side, made of one another, held against each other."""

import unittest

from tests.helper import CIRCLE, CIRCLE_BACK, FOUR, GREATEST, SEVEN, STAGES, all_told, ask, last, number_of

START = ("start",)
FULL = (("league", 2), ("league", 2), ("league", 2))


class Leagues(unittest.TestCase):
    def test_start(self):
        self.assertEqual(ask(START, ("state",)), [[0], [0, 0, 0]])

    def test_a_league_of_each_size(self):
        for players in range(1, 8):
            told = ask(START, ("league", players), ("one_state", 0), ("two_table", 0))
            self.assertEqual(told[1:], [[0, players, 0], [players, 0], [players] + list(range(players - 1, -1, -1))])

    def test_sizes_that_are_not_1_to_7(self):
        for players in (0, 8, GREATEST):
            self.assertEqual(ask(START, ("league", players), ("state",))[1:], [[-22], [0, 0, 0]])

    def test_four_leagues_and_one_more(self):
        told = ask(START, ("league", 7), ("league", 1), ("league", 2), ("league", 3), ("league", 4), ("state",))
        self.assertEqual(told[1:], [[0, 7, 0], [1, 1, 0], [2, 2, 0], [3, 3, 0], [-28], [4, 4, 0, 7, 1, 2, 3]])

    def test_too_many_leagues_comes_behind_all_else(self):
        four = (START, ("league", 7), ("league", 1), ("league", 2), ("league", 3))
        for call, refusal in ((("league", 0), -22), (("league", 8), -22), (("league", 1), -28), (("copy", 4), -2),
                              (("copy", 0), -28), (("joined", 0, 4), -2), (("joined", 0, 1), -22),
                              (("joined", 1, 2), -28), (("into", 4, 0), -2), (("into", 0, 2), -22),
                              (("into", 0, 1), -28), (("without", 4, 0), -2), (("without", 0, 7), -2),
                              (("without", 1, 1), -2), (("without", 1, 0), -22), (("without", 2, 0), -28)):
            self.assertEqual(ask(*four, call, ("state",))[5:], [[refusal], [4, 4, 0, 7, 1, 2, 3]], call)

    def test_room_again_behind_a_drop(self):
        told = ask(START, *FULL, ("league", 2), ("drop", 1), ("league", 5), ("league", 5))
        self.assertEqual(told[5:], [[2], [3, 5, 0], [-28]])

    def test_copy(self):
        told = ask(START, ("league", 3), ("one_games", 0, CIRCLE), ("copy", 0), ("one_turn", 1, 0, 1),
                   ("one_state", 0), ("one_state", 1))
        self.assertEqual(told[3:], [[1, 3, CIRCLE], [1], [3, CIRCLE], [3, CIRCLE + 1]])

    def test_the_one_copied_is_changed_alone_too(self):
        told = ask(START, ("league", 3), ("copy", 0), ("one_games", 0, 7), ("one_state", 0), ("one_state", 1))
        self.assertEqual(told[3:], [[3], [3, 7], [3, 0]])

    def test_drop(self):
        told = ask(START, ("league", 3), ("league", 5), ("league", 1), ("drop", 1), ("state",), ("one_state", 1),
                   ("one_state", 2), ("drop", 1), ("drop", 0), ("drop", 0), ("state",))
        self.assertEqual(told[4:], [[5], [2, 4, 0, 3, 1], [1, 0], [-2], [1], [3], [-2], [0, 6, 0]])

    def test_all_stages_tell_of_the_same_leagues(self):
        told = ask(START, ("league", 3), ("two_games", 0, CIRCLE), ("one_rows", 0), ("three_threes", 0),
                   ("three_turn", 0, 0, 2), ("two_table", 0), ("one_start", 0, 2), ("two_table", 0),
                   ("three_wins", 0, 0), ("three_start", 0, 7), ("state",))
        self.assertEqual(told[2:], [[3], [3], [1], [0], [3, 2, 1, 0], [0], [2, 1, 0], [1], [0], [1, 5, 0, 7]])

    def test_what_a_stage_changes_is_so_for_all(self):
        # Each change, in a league 1 of five players in which the lesser number won, and what league it is then.
        changes = [((f"{stage}_games", 1, 516), 5, 516) for stage in STAGES]
        changes += [((f"{stage}_turn", 1, 1, 3), 5, number_of(5, [(1, 3)])) for stage in STAGES]
        changes += [((f"{stage}_start", 1, 4), 4, 0) for stage in STAGES]
        changes += [(("two_make", 1, [0, 1, 2, 3, 4]), 5, 1023), (("five_squares", 1, 3), 3, CIRCLE),
                    (("five_squares", 1, 7), 7, SEVEN), (("six_rename", 1, [4, 3, 2, 1, 0]), 5, 1023),
                    (("six_back", 1), 5, 1023)]
        for change, players, number in changes:
            with self.subTest(change=change):
                told = all_told((START, ("league", 3), ("league", 5), change), 1, players)
                plain = all_told((START, ("league", 2), ("league", players), ("one_games", 1, number)), 1, players)
                self.assertEqual(told, plain)

    def test_a_round_of_three_turned_is_so_for_all(self):
        told = all_told((START, ("league", 4), ("four_games", 0, FOUR), ("two_turnThree", 0, 1)), 0, 4)
        plain = all_told((START, ("league", 4), ("one_games", 0, number_of(4, [(0, 2), (2, 3)]))), 0, 4)
        self.assertEqual(told, plain)


class Joined(unittest.TestCase):
    def test_one_behind_another(self):
        told = ask(START, ("league", 3), ("one_games", 0, CIRCLE), ("league", 2), ("one_games", 1, 1),
                   ("joined", 0, 1), ("joined", 1, 0), ("two_table", 2), ("two_table", 3))
        behind = number_of(5, [(0, 2), (3, 4)])
        ahead = number_of(5, [(0, 1), (2, 4)])
        self.assertEqual(told[5:], [[2, 5, behind], [3, 5, ahead], [5, 3, 3, 3, 0, 1], [5, 3, 4, 1, 1, 1]])

    def test_one_behind_itself(self):
        told = last(START, ("league", 3), ("one_games", 0, CIRCLE), ("joined", 0, 0))
        self.assertEqual(told, [1, 6, number_of(6, [(0, 2), (3, 5)])])

    def test_a_league_of_one_behind_another_and_ahead_of_it(self):
        told = ask(START, ("league", 2), ("one_games", 0, 1), ("league", 1), ("joined", 0, 1), ("joined", 1, 0))
        self.assertEqual(told[4:], [[2, 3, number_of(3, [(0, 1)])], [3, 3, number_of(3, [(1, 2)])]])
        self.assertEqual(last(START, ("league", 1), ("joined", 0, 0)), [1, 2, 0])

    def test_seven_together_are_enough(self):
        self.assertEqual(last(START, ("league", 3), ("league", 4), ("joined", 1, 0)), [2, 7, 0])
        self.assertEqual(last(START, ("league", 4), ("joined", 0, 0)), [-22])
        self.assertEqual(last(START, ("league", 7), ("league", 1), ("joined", 1, 0)), [-22])
        self.assertEqual(last(START, ("league", 7), ("league", 1), ("joined", 0, 1)), [-22])


class Into(unittest.TestCase):
    def test_one_into_another(self):
        told = ask(START, ("league", 3), ("one_games", 0, CIRCLE), ("league", 2), ("one_games", 1, 1),
                   ("into", 0, 1), ("into", 1, 0))
        # In each player of the circle the two of whom the second won.
        twos = [(0, 1), (2, 3), (4, 5), (0, 4), (0, 5), (1, 4), (1, 5)]
        # In each of the two the circle, and all of the second of them beat all of the first.
        threes = [(0, 2), (3, 5)] + [(i, j) for i in (0, 1, 2) for j in (3, 4, 5)]
        self.assertEqual(told[5:], [[2, 6, number_of(6, twos)], [3, 6, number_of(6, threes)]])

    def test_a_league_of_one_into_another_and_another_into_it(self):
        told = ask(START, ("league", 4), ("one_games", 0, FOUR), ("league", 1), ("into", 0, 1), ("into", 1, 0))
        self.assertEqual(told[4:], [[2, 4, FOUR], [3, 4, FOUR]])
        self.assertEqual(last(START, ("league", 7), ("league", 1), ("into", 0, 1)), [2, 7, 0])
        self.assertEqual(last(START, ("league", 7), ("league", 1), ("into", 1, 0)), [2, 7, 0])
        self.assertEqual(last(START, ("league", 1), ("into", 0, 0)), [1, 1, 0])

    def test_a_league_into_itself(self):
        told = last(START, ("league", 2), ("one_games", 0, 1), ("into", 0, 0))
        self.assertEqual(told, [1, 4, 63])
        self.assertEqual(last(START, ("league", 3), ("into", 0, 0)), [-22])

    def test_more_than_seven_multiplied(self):
        self.assertEqual(last(START, ("league", 4), ("league", 2), ("into", 0, 1)), [-22])
        self.assertEqual(last(START, ("league", 4), ("league", 2), ("into", 1, 0)), [-22])
        self.assertEqual(last(START, ("league", 2), ("league", 3), ("into", 1, 0)), [2, 6, 0])


class Without(unittest.TestCase):
    def test_one_left_out(self):
        # 3 beat 0; else as by their numbers.
        told = ask(START, ("league", 4), ("one_games", 0, FOUR), ("without", 0, 1), ("without", 0, 0),
                   ("without", 0, 3), ("two_table", 1), ("one_state", 0))
        self.assertEqual(told[3:], [[1, 3, CIRCLE], [2, 3, 0], [3, 3, 0], [3, 1, 1, 1], [4, FOUR]])

    def test_one_left_out_of_two(self):
        told = ask(START, ("league", 2), ("one_games", 0, 1), ("without", 0, 0), ("without", 0, 1), ("without", 0, 2))
        self.assertEqual(told[3:], [[1, 1, 0], [2, 1, 0], [-2]])

    def test_one_left_out_of_one(self):
        self.assertEqual(last(START, ("league", 1), ("without", 0, 0)), [-22])
        self.assertEqual(last(START, ("league", 1), ("without", 0, 1)), [-2])
        self.assertEqual(last(START, ("league", 1), ("without", 0, GREATEST)), [-2])

    def test_one_left_out_of_seven(self):
        self.assertEqual(last(START, ("league", 7), ("without", 0, 6)), [1, 6, 0])
        self.assertEqual(last(START, ("league", 7), ("without", 0, 7)), [-2])


class MadeOfOthers(unittest.TestCase):
    def test_a_league_dropped_that_another_was_made_of(self):
        told = ask(START, ("league", 3), ("one_games", 0, CIRCLE), ("joined", 0, 0), ("drop", 0), ("one_state", 0),
                   ("one_parts", 0))
        self.assertEqual(told[4:], [[3], [6, number_of(6, [(0, 2), (3, 5)])], [2, 0, 3, 3, 3]])

    def test_a_league_changed_that_another_was_made_of(self):
        told = ask(START, ("league", 2), ("league", 1), ("joined", 0, 1), ("into", 0, 1), ("one_games", 0, 1),
                   ("one_state", 2), ("one_state", 3))
        self.assertEqual(told[6:], [[3, 0], [2, 0]])


    def test_leagues_made_of_others_are_told_of_by_every_stage(self):
        begin = (START, ("league", 3), ("five_squares", 0, 3), ("league", 2), ("six_back", 1))
        for change in (("joined", 0, 1), ("joined", 1, 0), ("joined", 0, 0), ("joined", 1, 1), ("into", 0, 1),
                       ("into", 1, 0), ("into", 1, 1), ("without", 0, 1), ("without", 1, 0), ("copy", 0), ("copy", 1)):
            with self.subTest(change=change):
                place, players, number = last(*begin, change)
                self.assertEqual(place, 2)
                plain = all_told((START, ("league", players), ("one_games", 0, number)), 0, players)
                for more, k in ((), 2), ((("drop", 0),), 1), ((("drop", 0), ("undo",)), 2), ((("undo",), ("redo",)), 2):
                    self.assertEqual(all_told((*begin, change, *more), k, players), plain)

    def test_seven_made_of_others_are_told_of_by_every_stage(self):
        begin = (START, ("league", 3), ("five_squares", 0, 3), ("joined", 0, 0), ("league", 1), ("joined", 1, 2))
        plain = all_told((START, ("league", 7), ("one_games", 0, number_of(7, [(0, 2), (3, 5)]))), 0, 7)
        self.assertEqual(all_told(begin, 3, 7), plain)


class HeldAgainst(unittest.TestCase):
    def compared(self, players, first, second):
        line = (START, ("league", players), ("one_games", 0, first), ("league", players), ("one_games", 1, second))
        return ask(*line, ("sameTable", 0, 1), ("differ", 0, 1), ("alike", 0, 1))[5:]

    def test_the_same_league(self):
        told = ask(START, ("league", 3), ("sameTable", 0, 0), ("differ", 0, 0), ("alike", 0, 0))
        self.assertEqual(told[2:], [[1], [0], [3, 0, 1, 2]])

    def test_the_same_table_but_not_the_same_games(self):
        self.assertEqual(self.compared(3, CIRCLE, CIRCLE_BACK), [[1], [3], [3, 0, 2, 1]])

    def test_alike_but_for_names(self):
        # 0, 1, 2 in this order; and 1, 2, 0.
        other = number_of(3, [(0, 1), (0, 2)])
        self.assertEqual(self.compared(3, 0, other), [[0], [2], [3, 2, 0, 1]])
        self.assertEqual(self.compared(3, other, 0), [[0], [2], [3, 1, 2, 0]])

    def test_the_first_of_several_ways(self):
        # Any turn of the circle is a way; the least first player comes first.
        self.assertEqual(self.compared(3, CIRCLE, CIRCLE)[2], [3, 0, 1, 2])
        self.assertEqual(self.compared(3, CIRCLE_BACK, CIRCLE)[2], [3, 0, 2, 1])

    def test_not_alike(self):
        self.assertEqual(self.compared(3, 0, CIRCLE), [[0], [1], [-33]])
        # A winner ahead of a circle, and a circle ahead of a loser.
        ahead = number_of(4, [(1, 3)])
        behind = number_of(4, [(0, 2)])
        self.assertEqual(self.compared(4, ahead, behind), [[0], [2], [-33]])

    def test_the_same_table_in_another_order_is_not_the_same(self):
        self.assertEqual(self.compared(2, 0, 1), [[0], [1], [2, 1, 0]])

    def test_of_one_player(self):
        self.assertEqual(self.compared(1, 0, 0), [[1], [0], [1, 0]])

    def test_of_six_and_of_seven_players(self):
        self.assertEqual(self.compared(6, 0, 2 ** 15 - 1), [[0], [15], [6, 5, 4, 3, 2, 1, 0]])
        self.assertEqual(self.compared(7, 0, 2 ** 21 - 1), [[0], [21], [-22]])
        self.assertEqual(self.compared(7, 0, 0), [[1], [0], [-22]])

    def test_not_as_many_players(self):
        told = ask(START, ("league", 3), ("league", 4), ("sameTable", 0, 1), ("differ", 0, 1), ("alike", 0, 1),
                   ("sameTable", 1, 0), ("differ", 1, 0), ("alike", 1, 0))
        self.assertEqual(told[3:], [[-22]] * 6)

    def test_nothing_is_changed(self):
        line = (START, ("league", 3), ("league", 3), ("league", 4))
        for name in ("sameTable", "differ", "alike"):
            told = ask(*line, ("undo",), ("undo",), ("redo",), (name, 0, 1), ("state",))
            self.assertEqual(told[-1], [2, 2, 1, 3, 3])


if __name__ == "__main__":
    unittest.main()
