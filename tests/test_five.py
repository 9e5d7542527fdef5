"""Five: fewest who beat all others."""

import unittest

from tests.helper import CIRCLE, CIRCLE_BACK, FOUR, GREATEST, SEVEN, WINNER_AHEAD, of_league, one_of_league

# Of seven: 0 beat 1, 3, 5; 1 beat 2, 3, 4; 2 beat 0, 3, 4; 3 beat 4, 5, 6; 4 beat 0, 5, 6; 5 beat 1, 2, 6; 6 beat
# 0, 1, 2.
GREEDY = 26154


class Squares(unittest.TestCase):
    def test_squares(self):
        for players in (1, 2, 3, 6, 7):
            told = of_league(players, 0, ("five_squares", 0, 3), ("five_state", 0), ("five_squares", 0, 7),
                             ("five_state", 0), ("five_squares", 0, 3), ("one_state", 0))
            self.assertEqual(told, [[CIRCLE], [3, CIRCLE], [SEVEN], [7, SEVEN], [CIRCLE], [3, CIRCLE]])

    def test_who_beats_whom_by_squares(self):
        told = of_league(1, 0, ("five_squares", 0, 7), *[("five_beats", 0, i, j) for i in range(7) for j in range(7)])
        self.assertEqual(told[1:], [[int((j - i) % 7 in (1, 2, 4))] for i in range(7) for j in range(7)])

    def test_squares_refused(self):
        for number in (0, 1, 2, 4, 5, 6, 8, 9, 11, GREATEST):
            told = of_league(4, FOUR, ("five_squares", 0, number), ("five_state", 0))
            self.assertEqual(told, [[-22], [4, FOUR]])

    def test_squares_of_one_league_alone(self):
        told = of_league(4, FOUR, ("league", 2), ("five_squares", 1, 7), ("state",), ("five_state", 0))
        self.assertEqual(told[1:], [[SEVEN], [2, 4, 0, 4, 7], [4, FOUR]])


class Enough(unittest.TestCase):
    def test_left_and_covers(self):
        # 0 beat 1 and 2, 1 beat 2 and 3, 2 beat 3, 3 beat 0.
        left = {0: [0, 1, 2, 3], 1: [3], 2: [0], 3: [], 4: [0, 1], 5: [], 6: [0], 7: [], 8: [1, 2], 9: [], 10: [],
                11: [], 12: [1], 13: [], 14: [], 15: []}
        for s, others in left.items():
            told = of_league(4, FOUR, ("five_left", 0, s), ("five_covers", 0, s))
            self.assertEqual(told, [[len(others)] + others, [int(others == [])]], s)

    def test_players_that_there_are_not(self):
        for name in ("five_left", "five_covers", "five_over"):
            for players in (1, 2, 6, 7):
                end = 2 ** players
                told = of_league(players, 0, (name, 0, end - 1), (name, 0, end), (name, 0, end + 1), (name, 0, GREATEST))
                self.assertGreaterEqual(told[0][0], 0)
                self.assertEqual(told[1:], [[-22]] * 3)

    def test_of_none_and_of_all(self):
        for players in (1, 2, 6, 7):
            told = of_league(players, 0, ("five_left", 0, 0), ("five_covers", 0, 0), ("five_over", 0, 0),
                             ("five_left", 0, 2 ** players - 1), ("five_covers", 0, 2 ** players - 1),
                             ("five_over", 0, 2 ** players - 1))
            rising = [players] + list(range(players))
            self.assertEqual(told, [rising, [0], rising, [0], [1], [0]])

    def test_fewest_first_many(self):
        # By squares of seven any two have somebody over them, and 7 of the 35 threes.
        for players, number, fewest, first, many in (
                (1, 0, 1, [1, 0], 1), (2, 0, 1, [1, 0], 1), (2, 1, 1, [2, 1], 1), (3, 0, 1, [1, 0], 1), (3, 7, 1, [4, 2], 1),
                (3, CIRCLE, 2, [3, 0, 1], 3), (4, FOUR, 2, [3, 0, 1], 4), (4, WINNER_AHEAD, 1, [1, 0], 1),
                (6, 2 ** 15 - 1, 1, [32, 5], 1), (7, 0, 1, [1, 0], 1), (7, SEVEN, 3, [7, 0, 1, 2], 28),
                (7, GREEDY, 2, [18, 1, 4], 3)):
            told = of_league(players, number, ("five_fewest", 0), ("five_first", 0), ("five_many", 0))
            self.assertEqual(told, [[fewest], first, [many]], (players, number))

    def test_many_are_all_of_so_many_that_are_enough(self):
        told = of_league(4, FOUR, *[("five_covers", 0, s) for s in (3, 5, 6, 9, 10, 12)], ("five_many", 0))
        self.assertEqual(told, [[1], [1], [0], [1], [1], [0], [4]])

    def test_greedy(self):
        for players, number, expected in ((1, 0, [1, 0]), (2, 1, [1, 1]), (3, 7, [1, 2]), (3, CIRCLE, [2, 0, 1]),
                                          (3, CIRCLE_BACK, [2, 0, 1]), (4, FOUR, [2, 0, 1]), (4, WINNER_AHEAD, [1, 0]),
                                          (6, 0, [1, 0]), (7, 0, [1, 0]), (7, SEVEN, [3, 0, 1, 2])):
            self.assertEqual(one_of_league(players, number, "five_greedy", 0), expected)

    def test_greedy_is_not_always_fewest(self):
        # Behind 0 are 2, 4, 6 left, a circle, of whom all others take two: 1 takes 2 and 4, 3 is the first to take 6.
        told = of_league(7, GREEDY, ("five_greedy", 0), ("five_covers", 0, 18))
        self.assertEqual(told, [[3, 0, 1, 3], [1]])

    def test_greedy_leaves_nobody(self):
        for number in range(0, 2 ** 15, 311):
            greedy = one_of_league(6, number, "five_greedy", 0)
            told = of_league(6, number, ("five_covers", 0, sum(2 ** i for i in greedy[1:])), ("five_fewest", 0))
            self.assertEqual(told[0], [1])
            self.assertLessEqual(told[1][0], greedy[0])


class Over(unittest.TestCase):
    def test_over(self):
        over = {0: [0, 1, 2, 3], 1: [3], 2: [0], 3: [], 4: [0, 1], 5: [], 6: [0], 7: [], 8: [1, 2], 9: [], 10: [],
                11: [], 12: [1], 13: [], 14: [], 15: []}
        for s, others in over.items():
            self.assertEqual(one_of_league(4, FOUR, "five_over", 0, s), [len(others)] + others, s)

    def test_any(self):
        for players, number, expected in ((1, 0, [1, 0, 1, 1]), (2, 0, [1, 0, 0, 1]), (3, 0, [1, 0, 0, 0, 1]),
                                          (3, CIRCLE, [1, 1, 0, 0, 1]), (4, FOUR, [1, 1, 0, 0, 0, 1]),
                                          (6, 0, [1, 0, 0, 0, 0, 0, 0, 1]), (7, 0, [1, 0, 0, 0, 0, 0, 0, 0, 1]),
                                          (7, SEVEN, [1, 1, 1, 0, 0, 0, 0, 0, 1])):
            told = of_league(players, number, *[("five_any", 0, k) for k in range(len(expected))])
            self.assertEqual(told, [[answer] for answer in expected])

    def test_of_more_than_there_are_there_is_no_set_that_nobody_is_over(self):
        for players in (1, 2, 6, 7):
            told = of_league(players, 0, *[("five_any", 0, k) for k in (players, players + 1, 60, GREATEST)])
            self.assertEqual(told, [[0], [1], [1], [1]])

    def test_deep(self):
        for players, number, expected in ((1, 0, 0), (2, 0, 0), (2, 1, 0), (3, 0, 0), (3, CIRCLE, 1), (4, FOUR, 1),
                                          (4, WINNER_AHEAD, 0), (6, 0, 0), (7, 0, 0), (7, SEVEN, 2), (7, GREEDY, 1)):
            self.assertEqual(one_of_league(players, number, "five_deep", 0), [expected])

    def test_deep_is_one_less_than_fewest(self):
        # A set that somebody is over is not enough, and one that nobody is over is.
        for number in range(0, 2 ** 15, 307):
            told = of_league(6, number, ("five_deep", 0), ("five_fewest", 0))
            self.assertEqual(told[0][0] + 1, told[1][0])

    def test_needs(self):
        told = of_league(1, 0, *[("five_needs", 0, k) for k in (0, 1, 2, 3, 10, 19, 20, 21, GREATEST)])
        self.assertEqual(told, [[1], [3], [7], [15], [2047], [1048575], [2097151], [-22], [-22]])
        self.assertEqual(of_league(7, 0, ("five_needs", 0, 2), ("five_needs", 0, 21)), [[7], [-22]])

    def test_bare(self):
        for players, number, expected in ((1, 0, [1, 0]), (2, 0, [1, 1]), (2, 1, [1, 0]), (3, CIRCLE, [0]), (3, 7, [1, 0]),
                                          (4, FOUR, [0]), (4, WINNER_AHEAD, [0]), (6, 0, [1, 5]), (7, 0, [1, 6]),
                                          (7, SEVEN, [0])):
            self.assertEqual(one_of_league(players, number, "five_bare", 0), expected)


if __name__ == "__main__":
    unittest.main()
