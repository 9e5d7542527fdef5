"""Four: those in order among themselves."""

import unittest

from tests.helper import CIRCLE, CIRCLE_BACK, FOUR, GREATEST, SEVEN, WINNER_AHEAD, of_league, one_of_league

# Of four: 2 and 3 beat 0, else as by their numbers.
TWO_BEAT_ZERO = 6
# Of four: 1 beat 0 and 3, 2 beat 1 and 3, 0 beat 2, 3 beat 0.
GROWN = 13


class Sets(unittest.TestCase):
    def test_in_order(self):
        told = of_league(4, FOUR, *[("four_inOrder", 0, s) for s in range(17)], ("four_inOrder", 0, GREATEST))
        # All but the two circles and what has one of them.
        expected = [[0 if s in (11, 13, 15) else 1] for s in range(16)]
        self.assertEqual(told, expected + [[-22], [-22]])

    def test_one_beat_all_others_but_these_are_not_in_order(self):
        told = of_league(4, WINNER_AHEAD, ("four_inOrder", 0, 15), ("four_order", 0, 15), ("four_adds", 0, 15),
                         ("four_inOrder", 0, 14), ("four_inOrder", 0, 13))
        self.assertEqual(told, [[0], [-33], [-33], [0], [1]])

    def test_order(self):
        told = of_league(4, FOUR, *[("four_order", 0, s) for s in (0, 1, 8, 3, 9, 12, 7, 14, 11, 13, 15, 16, GREATEST)])
        self.assertEqual(told, [[0], [1, 0], [1, 3], [2, 0, 1], [2, 3, 0], [2, 2, 3], [3, 0, 1, 2], [3, 1, 2, 3], [-33],
                                [-33], [-33], [-22], [-22]])
        self.assertEqual(one_of_league(4, 63, "four_order", 0, 15), [4, 3, 2, 1, 0])

    def test_adds(self):
        told = of_league(4, FOUR, *[("four_adds", 0, s) for s in (0, 1, 3, 6, 7, 9, 11, 15, 16, GREATEST)])
        self.assertEqual(told, [[4, 0, 1, 2, 3], [3, 1, 2, 3], [1, 2], [2, 0, 3], [0], [0], [-33], [-33], [-22], [-22]])
        self.assertEqual(of_league(4, 63, ("four_adds", 0, 5), ("four_adds", 0, 15)), [[2, 1, 3], [0]])

    def test_players_that_there_are_not(self):
        for name in ("four_inOrder", "four_order", "four_adds"):
            for players in (1, 2, 6, 7):
                end = 2 ** players
                told = of_league(players, 0, (name, 0, end - 1), (name, 0, end), (name, 0, 2 * end - 1), (name, 0, GREATEST))
                self.assertGreaterEqual(told[0][0], 0)
                self.assertEqual(told[1:], [[-22]] * 3)
        # Not -33, though it has a circle, too.
        self.assertEqual(of_league(3, CIRCLE, ("four_order", 0, 15), ("four_adds", 0, 15)), [[-22], [-22]])

    def test_of_all_and_of_none(self):
        for players in (1, 2, 6, 7):
            told = of_league(players, 0, ("four_inOrder", 0, 0), ("four_order", 0, 0), ("four_adds", 0, 0),
                             ("four_order", 0, 2 ** players - 1), ("four_adds", 0, 2 ** players - 1))
            rising = [players] + list(range(players))
            self.assertEqual(told, [[1], [0], rising, rising, [0]])


class Most(unittest.TestCase):
    def test_most_and_leave(self):
        for players, number, most in ((1, 0, 1), (2, 0, 2), (2, 1, 2), (3, CIRCLE, 2), (3, 7, 3), (4, FOUR, 3),
                                      (4, WINNER_AHEAD, 3), (6, 2 ** 15 - 1, 6), (7, 0, 7), (7, SEVEN, 3)):
            self.assertEqual(of_league(players, number, ("four_most", 0), ("four_leave", 0)), [[most], [players - most]])

    def test_best(self):
        for players, number, expected in ((1, 0, [1, 0]), (2, 0, [3, 0, 1]), (2, 1, [3, 1, 0]), (3, CIRCLE, [3, 0, 1]),
                                          (3, CIRCLE_BACK, [3, 1, 0]), (4, FOUR, [7, 0, 1, 2]), (4, 63, [15, 3, 2, 1, 0]),
                                          (4, TWO_BEAT_ZERO, [13, 2, 3, 0]), (7, 0, [127, 0, 1, 2, 3, 4, 5, 6]),
                                          (7, SEVEN, [7, 0, 1, 2])):
            self.assertEqual(one_of_league(players, number, "four_best", 0), expected)

    def test_many(self):
        told = of_league(4, FOUR, *[("four_many", 0, k) for k in (0, 1, 2, 3, 4, 5, GREATEST)])
        self.assertEqual(told, [[1], [4], [6], [2], [0], [0], [0]])
        told = of_league(7, SEVEN, *[("four_many", 0, k) for k in range(9)])
        self.assertEqual(told, [[1], [7], [21], [21], [0], [0], [0], [0], [0]])
        told = of_league(7, 0, *[("four_many", 0, k) for k in range(9)])
        self.assertEqual(told, [[1], [7], [21], [35], [35], [21], [7], [1], [0]])
        self.assertEqual(of_league(1, 0, *[("four_many", 0, k) for k in range(3)]), [[1], [1], [0]])

    def test_all(self):
        for players, number, expected in ((1, 0, 2), (2, 1, 4), (3, 0, 8), (3, CIRCLE, 7), (4, FOUR, 13),
                                          (4, WINNER_AHEAD, 14), (6, 0, 64), (7, 0, 128), (7, SEVEN, 50)):
            self.assertEqual(one_of_league(players, number, "four_all", 0), [expected])

    def test_among(self):
        # 1, 2, 3, 4 are in order; with 0, who is in a circle with 1 and 2, with 1 and 4, with 3 and 4, no four are.
        told = of_league(5, 10, *[("four_among", 0, i) for i in (0, 1, 2, 3, 4, 5, GREATEST)])
        self.assertEqual(told, [[3], [4], [4], [4], [4], [-2], [-2]])
        self.assertEqual(of_league(1, 0, ("four_among", 0, 0), ("four_among", 0, 1)), [[1], [-2]])
        self.assertEqual(of_league(2, 1, *[("four_among", 0, i) for i in range(3)]), [[2], [2], [-2]])
        self.assertEqual(of_league(7, SEVEN, *[("four_among", 0, i) for i in range(8)]), [[3]] * 7 + [[-2]])
        self.assertEqual(of_league(6, 0, *[("four_among", 0, i) for i in range(7)]), [[6]] * 6 + [[-2]])


class Grown(unittest.TestCase):
    def test_grown(self):
        for players, number, expected in ((1, 0, [1, 0]), (2, 0, [2, 0, 1]), (2, 1, [2, 1, 0]), (3, CIRCLE, [2, 0, 1]),
                                          (4, FOUR, [3, 0, 1, 2]), (4, 63, [4, 3, 2, 1, 0]), (6, 0, [6, 0, 1, 2, 3, 4, 5]),
                                          (7, 0, [7, 0, 1, 2, 3, 4, 5, 6]), (7, SEVEN, [3, 0, 1, 2])):
            self.assertEqual(one_of_league(players, number, "four_grown", 0), expected)

    def test_who_wins_most_among_those_that_are_left(self):
        # 1 is the first with two; of 0 and 3, who won one game each, 3 beat 0.
        self.assertEqual(one_of_league(4, GROWN, "four_grown", 0), [3, 1, 3, 0])

    def test_grown_is_not_always_most(self):
        # 1 is the first with three, and beat a circle; but 2, 1, 3, 4 are in order.
        told = of_league(5, 25, ("four_grown", 0), ("four_most", 0), ("four_order", 0, 30))
        self.assertEqual(told, [[3, 1, 0, 3], [4], [4, 2, 1, 3, 4]])

    def test_sure(self):
        told = of_league(3, 0, *[("four_sure", 0, n) for n in (0, 1, 2, 3, 4, 7, 8, 15, 16, 511, 512, 1000)])
        self.assertEqual(told, [[0], [1], [2], [2], [3], [3], [4], [4], [5], [9], [10], [10]])
        for players in (1, 7):
            self.assertEqual(of_league(players, 0, ("four_sure", 0, 1001), ("four_sure", 0, GREATEST)), [[-22], [-22]])

    def test_grown_are_in_order_and_never_fewer_than_sure(self):
        for players, step in ((3, 1), (4, 1), (5, 11), (6, 509), (7, 40009)):
            sure = one_of_league(1, 0, "four_sure", 0, players)[0]
            for number in range(0, 2 ** (players * (players - 1) // 2), step):
                grown = one_of_league(players, number, "four_grown", 0)
                told = of_league(players, number, ("four_order", 0, sum(2 ** i for i in grown[1:])), ("four_most", 0))
                self.assertEqual(told[0], grown)
                self.assertGreaterEqual(grown[0], sure)
                self.assertLessEqual(grown[0], told[1][0])


if __name__ == "__main__":
    unittest.main()
