"""Three: rounds of three."""

import unittest

from tests.helper import CIRCLE, CIRCLE_BACK, FOUR, GREATEST, SEVEN, WINNER_AHEAD, of_league, one_of_league


class Threes(unittest.TestCase):
    def test_threes(self):
        for players, number, expected in ((1, 0, 0), (2, 0, 0), (3, 7, 0), (3, CIRCLE, 1), (4, FOUR, 2), (7, 0, 0),
                                          (7, SEVEN, 14)):
            self.assertEqual(one_of_league(players, number, "three_threes", 0), [expected])

    def test_nth(self):
        told = of_league(4, FOUR, *[("three_nth", 0, k) for k in (0, 1, 2, GREATEST)])
        self.assertEqual(told, [[3, 0, 1, 3], [3, 0, 2, 3], [-33], [-33]])
        self.assertEqual(one_of_league(3, CIRCLE_BACK, "three_nth", 0, 0), [3, 0, 2, 1])
        for players in (1, 2, 7):
            self.assertEqual(one_of_league(players, 0, "three_nth", 0, 0), [-33])

    def test_nth_are_in_order(self):
        told = of_league(7, SEVEN, *[("three_nth", 0, k) for k in range(15)])
        self.assertEqual(told[14], [-33])
        self.assertEqual(told[:14], sorted(told[:14]))
        self.assertEqual(told[0], [3, 0, 1, 3])
        for three in told[:14]:
            self.assertEqual(three[1], min(three[1:]))

    def test_of(self):
        told = of_league(4, FOUR, *[("three_of", 0, i) for i in (0, 1, 2, 3, 4, GREATEST)])
        self.assertEqual(told, [[2], [1], [1], [2], [-2], [-2]])
        self.assertEqual(of_league(7, SEVEN, *[("three_of", 0, i) for i in range(8)]), [[6]] * 7 + [[-2]])
        self.assertEqual(of_league(1, 0, ("three_of", 0, 0), ("three_of", 0, 1)), [[0], [-2]])

    def test_through(self):
        told = of_league(4, FOUR, *[("three_through", 0, i, j) for i, j in
                                    ((0, 1), (1, 0), (0, 2), (0, 3), (3, 0), (1, 2), (1, 3), (2, 3))])
        self.assertEqual(told, [[1], [1], [1], [2], [2], [0], [1], [1]])
        self.assertEqual(of_league(7, SEVEN, *[("three_through", 0, 2, j) for j in (0, 1, 3, 4, 5, 6)]), [[2]] * 6)

    def test_would(self):
        told = of_league(4, FOUR, ("three_would", 0, 0, 3), ("three_would", 0, 3, 0), ("three_would", 0, 1, 2),
                         ("three_would", 0, 0, 1), ("three_threes", 0), ("one_state", 0))
        # With 2 ahead of 1 no more and no less; with 1 ahead of 0: 0, 2, 3 alone, as 1, 2, 3 and 1, 0 rise.
        self.assertEqual(told, [[0], [0], [2], [1], [2], [4, FOUR]])
        self.assertEqual(of_league(2, 0, ("three_would", 0, 0, 1), ("one_state", 0)), [[0], [2, 0]])
        self.assertEqual(of_league(7, 0, ("three_would", 0, 0, 6), ("three_would", 0, 0, 1)), [[5], [0]])

    def test_two_refused(self):
        for name in ("three_through", "three_would"):
            told = of_league(4, FOUR, *[(name, 0, i, j) for i, j in ((4, 0), (0, 4), (4, 4), (GREATEST, GREATEST), (1, 1))])
            self.assertEqual(told, [[-2]] * 4 + [[-22]], name)
            self.assertEqual(of_league(1, 0, (name, 0, 0, 0), (name, 0, 0, 1)), [[-22], [-2]])


class ByWins(unittest.TestCase):
    def test_what_they_tell(self):
        for wins, expected in (([0], 0), ([1], 0), ([2], -33), ([0, 0], 0), ([1, 1, 1], 1), ([2, 1, 0], 0),
                               ([2, 2, 1, 1], 2), ([3, 1, 1, 1], 1), ([3] * 7, 14), ([6, 5, 4, 3, 2, 1, 0], 0),
                               ([0] * 7, 35), ([0] * 30, 4060), ([1] * 30, 4060), ([30] + [0] * 29, 3625),
                               ([30] * 9 + [0] * 21, 145), ([30] * 10 + [0] * 20, -33), ([30] * 30, -33),
                               ([30], -33), ([2, 2, 1], -33)):
            for players in (1, 7):
                self.assertEqual(one_of_league(players, 0, "three_byWins", 0, wins), [expected], wins)

    def test_refused(self):
        for wins in ([], [0] * 31, [1] * 60, [31], [0, 31], [0] * 29 + [31], [GREATEST], [31] * 60, [GREATEST] * 60):
            self.assertEqual(one_of_league(3, 0, "three_byWins", 0, wins), [-22], wins)

    def test_the_league_s_own_table_tells_its_threes(self):
        for number in range(0, 1024, 7):
            table = one_of_league(5, number, "two_table", 0)[1:]
            told = of_league(5, number, ("three_byWins", 0, table), ("three_threes", 0))
            self.assertEqual(told[0], told[1])


class Through(unittest.TestCase):
    def test_calm(self):
        for players, number, expected in ((1, 0, [1, 0]), (2, 1, [2, 0, 1]), (3, 0, [3, 0, 1, 2]), (3, CIRCLE, [0]),
                                          (4, FOUR, [0]), (4, WINNER_AHEAD, [1, 0]), (6, 0, [6, 0, 1, 2, 3, 4, 5]),
                                          (7, 0, [7, 0, 1, 2, 3, 4, 5, 6]), (7, SEVEN, [0])):
            self.assertEqual(one_of_league(players, number, "three_calm", 0), expected)

    def test_busiest(self):
        # Of the four 0 and 3 are in two; of the circle behind a winner each in one.
        for players, number, expected in ((1, 0, [0, 0]), (2, 1, [0, 0]), (3, 7, [0, 0]), (3, CIRCLE, [0, 1]),
                                          (4, FOUR, [0, 2]), (4, WINNER_AHEAD, [1, 1]), (6, 0, [0, 0]),
                                          (7, 0, [0, 0]), (7, SEVEN, [0, 6])):
            self.assertEqual(one_of_league(players, number, "three_busiest", 0), expected)

    def test_busiest_is_not_always_the_first(self):
        # With 4 ahead of 1 alone: 1, 2, 4 and 1, 3, 4.
        told = of_league(5, 0, ("three_turn", 0, 1, 4), ("three_busiest", 0), ("three_calm", 0))
        self.assertEqual(told, [[4], [1, 2], [1, 0]])

    def test_within(self):
        for players, expected in (([], 0), ([0], 0), ([3, 3, 3], 0), ([0, 1, 3], 1), ([3, 0, 1, 0, 3], 1),
                                  ([0, 2, 3], 1), ([0, 1, 2], 0), ([1, 2, 3], 0), ([3, 2, 1, 0], 2),
                                  ([0, 1, 2, 3] * 15, 2), ([0] * 60, 0), ([4], -2), ([0, 1, 3, 4], -2),
                                  ([4, 0, 1, 3], -2), ([0] * 59 + [4], -2), ([GREATEST], -2), ([GREATEST] * 60, -2)):
            self.assertEqual(one_of_league(4, FOUR, "three_within", 0, players), [expected], players)

    def test_within_leagues_of_one_and_of_seven(self):
        self.assertEqual(of_league(1, 0, *[("three_within", 0, told) for told in ([], [0], [1], [0] * 60)]),
                         [[0], [0], [-2], [0]])
        told = of_league(7, SEVEN, *[("three_within", 0, list(range(players))) for players in range(9)])
        # The first four of the seven are as the four above.
        self.assertEqual([told[0], told[3], told[4], told[7], told[8]], [[0], [0], [2], [14], [-2]])


class Most(unittest.TestCase):
    def test_most(self):
        told = of_league(1, 0, *[("three_most", 0, n) for n in range(10)])
        self.assertEqual(told, [[0], [0], [0], [1], [2], [5], [8], [14], [20], [30]])
        told = of_league(7, SEVEN, *[("three_most", 0, n) for n in (999, 1000, 1001, GREATEST)])
        self.assertEqual(told, [[41541750], [41666500], [-22], [-22]])

    def test_no_league_has_more(self):
        for players, step in ((3, 1), (4, 1), (5, 1), (6, 101)):
            most = one_of_league(1, 0, "three_most", 0, players)[0]
            found = [one_of_league(players, number, "three_threes", 0)[0]
                     for number in range(0, 2 ** (players * (players - 1) // 2), step)]
            self.assertEqual(max(found), most)

    def test_level(self):
        for players, number, expected in ((1, 0, 1), (2, 0, 1), (2, 1, 1), (3, 0, 0), (3, CIRCLE, 1), (4, FOUR, 1),
                                          (4, WINNER_AHEAD, 0), (6, 0, 0), (7, 0, 0), (7, SEVEN, 1)):
            self.assertEqual(one_of_league(players, number, "three_level", 0), [expected])

    def test_level_are_just_those_with_most(self):
        for number in range(0, 1024, 3):
            told = of_league(5, number, ("three_level", 0), ("three_threes", 0))
            self.assertEqual(told[0] == [1], told[1] == [5])

    def test_fours(self):
        # Of seven by squares the three whom one beat are a circle, those who beat one, too: 7 and 7 with one.
        for players, number, expected in ((1, 0, [0, 0, 0, 0]), (2, 0, [0, 0, 0, 0]), (3, CIRCLE, [0, 0, 0, 0]),
                                          (4, 0, [1, 1, 0, 0]), (4, WINNER_AHEAD, [1, 0, 1, 0]), (4, FOUR, [1, 0, 0, 1]),
                                          (5, 0, [5, 5, 0, 0]), (6, 0, [15, 15, 0, 0]), (7, 0, [35, 35, 0, 0]),
                                          (7, SEVEN, [35, 0, 14, 21])):
            self.assertEqual(one_of_league(players, number, "three_fours", 0), expected)

    def test_fours_count_each_round_with_each_other_player(self):
        for number in range(0, 2 ** 15, 313):
            told = of_league(6, number, ("three_fours", 0), ("three_threes", 0))
            self.assertEqual(told[0][0], sum(told[0][1:]))
            self.assertEqual(told[0][2] + 2 * told[0][3], 3 * told[1][0])


if __name__ == "__main__":
    unittest.main()
