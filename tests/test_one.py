"""One: rows and rounds."""

import unittest

from tests.helper import CIRCLE, CIRCLE_BACK, FOUR, GREATEST, SEVEN, number_of, of_league, one_of_league

# The rows of the league of four in which 3 beat 0, in order.
ROWS_OF_FOUR = [[0, 1, 2, 3], [1, 2, 3, 0], [1, 3, 0, 2], [2, 3, 0, 1], [3, 0, 1, 2]]
# 3 beat all others, who are a circle.
WINNER_LAST = number_of(4, [(0, 2), (0, 3), (1, 3), (2, 3)])


class Rows(unittest.TestCase):
    def test_put_in_one_by_one(self):
        self.assertEqual(one_of_league(4, FOUR, "one_row", 0), [4, 3, 0, 1, 2])
        self.assertEqual(one_of_league(3, CIRCLE, "one_row", 0), [3, 2, 0, 1])
        self.assertEqual(one_of_league(3, CIRCLE_BACK, "one_row", 0), [3, 2, 1, 0])
        self.assertEqual(one_of_league(4, 63, "one_row", 0), [4, 3, 2, 1, 0])
        self.assertEqual(one_of_league(7, 0, "one_row", 0), [7, 0, 1, 2, 3, 4, 5, 6])
        self.assertEqual(one_of_league(1, 0, "one_row", 0), [1, 0])
        self.assertEqual(of_league(2, 1, ("one_row", 0), ("one_games", 0, 0), ("one_row", 0))[::2], [[2, 1, 0], [2, 0, 1]])

    def test_put_in_ahead_of_the_first_one_beaten(self):
        # 2 beat 1 alone; 3 beat 1 alone, who stands behind 2.
        self.assertEqual(one_of_league(4, number_of(4, [(1, 2), (1, 3)]), "one_row", 0), [4, 0, 2, 3, 1])

    def test_put_in_is_always_a_row(self):
        for number in range(64):
            row = one_of_league(4, number, "one_row", 0)[1:]
            self.assertEqual(one_of_league(4, number, "one_isRow", 0, row), [1])

    def test_how_many(self):
        self.assertEqual(one_of_league(4, FOUR, "one_rows", 0), [5])
        self.assertEqual(one_of_league(3, CIRCLE, "one_rows", 0), [3])
        self.assertEqual(one_of_league(7, SEVEN, "one_rows", 0), [189])
        for players in (1, 2, 7):
            self.assertEqual(one_of_league(players, 0, "one_rows", 0), [1])

    def test_nth(self):
        told = of_league(4, FOUR, *[("one_nth", 0, k) for k in range(6)], ("one_nth", 0, GREATEST))
        self.assertEqual(told, [[4] + row for row in ROWS_OF_FOUR] + [[-33], [-33]])
        self.assertEqual(of_league(1, 0, ("one_nth", 0, 0), ("one_nth", 0, 1)), [[1, 0], [-33]])
        self.assertEqual(of_league(2, 1, ("one_nth", 0, 0), ("one_nth", 0, 1)), [[2, 1, 0], [-33]])
        told = of_league(7, SEVEN, ("one_nth", 0, 0), ("one_nth", 0, 188), ("one_nth", 0, 189))
        self.assertEqual(told[0], [7, 0, 1, 2, 3, 4, 5, 6])
        self.assertEqual(told[1][:2], [7, 6])
        self.assertEqual(told[2], [-33])

    def test_is_row(self):
        for row, expected in (([0, 1, 2, 3], 1), ([3, 0, 1, 2], 1), ([1, 3, 0, 2], 1), ([0, 1, 3, 2], 0),
                              ([3, 2, 1, 0], 0), ([3, 0, 2, 1], 0)):
            self.assertEqual(one_of_league(4, FOUR, "one_isRow", 0, row), [expected], row)
        self.assertEqual(one_of_league(1, 0, "one_isRow", 0, [0]), [1])

    def test_is_row_refused(self):
        for row in ([], [0], [0, 1, 2], [0, 1, 2, 2], [0, 1, 2, 4], [1, 2, 3, 4], [0, 1, 2, 3, 3], [0, 1, 2, 3, 4],
                    [0] * 60, list(range(60)), [0, 1, 2, GREATEST], [GREATEST] * 60):
            self.assertEqual(one_of_league(4, FOUR, "one_isRow", 0, row), [-22], row)
        self.assertEqual(one_of_league(1, 0, "one_isRow", 0, []), [-22])
        self.assertEqual(one_of_league(1, 0, "one_isRow", 0, [1]), [-22])

    def test_begins(self):
        told = of_league(4, FOUR, *[("one_begins", 0, i) for i in (0, 1, 2, 3, 4, GREATEST)])
        self.assertEqual(told, [[1], [2], [1], [1], [-2], [-2]])
        self.assertEqual(of_league(1, 0, ("one_begins", 0, 0), ("one_begins", 0, 1)), [[1], [-2]])
        self.assertEqual(of_league(7, SEVEN, *[("one_begins", 0, i) for i in range(7)]), [[27]] * 7)

    def test_between(self):
        pairs = [(i, j) for i in range(4) for j in range(4) if i != j]
        told = of_league(4, FOUR, *[("one_between", 0, i, j) for i, j in pairs])
        ends = [(row[0], row[-1]) for row in ROWS_OF_FOUR]
        self.assertEqual(told, [[ends.count(pair)] for pair in pairs])

    def test_between_refused(self):
        told = of_league(4, FOUR, *[("one_between", 0, i, j) for i, j in ((4, 0), (0, 4), (4, 4), (GREATEST, 1), (2, 2))])
        self.assertEqual(told, [[-2], [-2], [-2], [-2], [-22]])
        self.assertEqual(of_league(1, 0, ("one_between", 0, 0, 0), ("one_between", 0, 0, 1)), [[-22], [-2]])


class Parts(unittest.TestCase):
    def test_comes(self):
        told = of_league(4, WINNER_LAST, *[("one_comes", 0, i, j) for i in range(4) for j in range(4)])
        self.assertEqual(told, [[1], [1], [1], [0]] * 3 + [[1]] * 4)
        self.assertEqual(of_league(3, 0, ("one_comes", 0, 2, 2), ("one_comes", 0, 2, 0)), [[1], [0]])
        self.assertEqual(one_of_league(1, 0, "one_comes", 0, 0, 0), [1])

    def test_comes_over_many_steps(self):
        # All as told the other way round, but each beat the next: from 0 to 6 only over all others.
        number = number_of(7, [(i, j) for i in range(7) for j in range(i + 2, 7)])
        told = of_league(7, number, ("one_comes", 0, 0, 6), ("one_beats", 0, 0, 6), ("one_strong", 0))
        self.assertEqual(told, [[1], [0], [1]])

    def test_comes_refused(self):
        told = of_league(3, 0, *[("one_comes", 0, i, j) for i, j in ((3, 0), (0, 3), (3, 3), (GREATEST, GREATEST))])
        self.assertEqual(told, [[-2]] * 4)

    def test_part(self):
        told = of_league(4, WINNER_LAST, *[("one_part", 0, i) for i in (0, 1, 2, 3, 4, GREATEST)])
        self.assertEqual(told, [[3, 0, 1, 2]] * 3 + [[1, 3], [-2], [-2]])
        self.assertEqual(of_league(1, 0, ("one_part", 0, 0), ("one_part", 0, 1)), [[1, 0], [-2]])
        self.assertEqual(one_of_league(7, SEVEN, "one_part", 0, 4), [7, 0, 1, 2, 3, 4, 5, 6])

    def test_parts(self):
        self.assertEqual(one_of_league(4, WINNER_LAST, "one_parts", 0), [2, 3, 1, 0, 3])
        self.assertEqual(one_of_league(4, FOUR, "one_parts", 0), [1, 0, 4])
        self.assertEqual(one_of_league(3, 7, "one_parts", 0), [3, 2, 1, 1, 1, 0, 1])
        self.assertEqual(one_of_league(3, 0, "one_parts", 0), [3, 0, 1, 1, 1, 2, 1])
        self.assertEqual(one_of_league(1, 0, "one_parts", 0), [1, 0, 1])
        self.assertEqual(one_of_league(2, 1, "one_parts", 0), [2, 1, 1, 0, 1])
        self.assertEqual(one_of_league(7, SEVEN, "one_parts", 0), [1, 0, 7])

    def test_parts_that_lie_among_one_another(self):
        # 1, 3, 5 are a circle ahead of the circle of 0, 2, 4, and these of 6.
        beaten = [(1, 5), (0, 4)] + [(i, j) for i in (0, 2, 4) for j in (1, 3, 5) if i < j]
        number = number_of(7, beaten)
        told = of_league(7, number, ("one_parts", 0), ("one_part", 0, 5), ("one_part", 0, 2), ("one_part", 0, 6))
        self.assertEqual(told, [[3, 1, 3, 0, 3, 6, 1], [3, 1, 3, 5], [3, 0, 2, 4], [1, 6]])

    def test_strong(self):
        for players, number, expected in ((1, 0, 1), (2, 0, 0), (2, 1, 0), (3, 0, 0), (3, CIRCLE, 1), (4, FOUR, 1),
                                          (4, WINNER_LAST, 0), (7, 0, 0), (7, SEVEN, 1)):
            self.assertEqual(one_of_league(players, number, "one_strong", 0), [expected])


class Rounds(unittest.TestCase):
    def test_how_many(self):
        told = of_league(4, FOUR, *[("one_rounds", 0, i, 3) for i in range(4)], *[("one_rounds", 0, i, 4) for i in range(4)])
        self.assertEqual(told, [[2], [1], [1], [2], [1], [1], [1], [1]])
        self.assertEqual(of_league(7, SEVEN, ("one_rounds", 0, 0, 3), ("one_rounds", 0, 6, 3)), [[6], [6]])
        self.assertEqual(one_of_league(7, 0, "one_rounds", 0, 3, 7), [0])

    def test_of_seven_all_lengths(self):
        told = of_league(7, SEVEN, *[("one_rounds", 0, 2, k) for k in range(2, 9)])
        self.assertEqual(told, [[-22], [6], [12], [30], [30], [24], [-22]])

    def test_refused(self):
        for name in ("one_rounds", "one_round"):
            told = of_league(4, FOUR, *[(name, 0, i, k) for i, k in ((4, 3), (4, 2), (GREATEST, GREATEST), (0, 0), (0, 1),
                                                                     (0, 2), (0, 5), (0, GREATEST))])
            self.assertEqual(told, [[-2]] * 3 + [[-22]] * 5, name)
            for players in (1, 2):
                told = of_league(players, 0, (name, 0, 0, players), (name, 0, 0, 3), (name, 0, players, 3))
                self.assertEqual(told, [[-22], [-22], [-2]])
            self.assertEqual(of_league(3, CIRCLE, (name, 0, 0, 4)), [[-22]])

    def test_the_first(self):
        told = of_league(4, FOUR, *[("one_round", 0, i, 3) for i in range(4)], *[("one_round", 0, i, 4) for i in range(4)])
        self.assertEqual(told, [[3, 0, 1, 3], [3, 1, 3, 0], [3, 2, 3, 0], [3, 3, 0, 1],
                                [4, 0, 1, 2, 3], [4, 1, 2, 3, 0], [4, 2, 3, 0, 1], [4, 3, 0, 1, 2]])
        self.assertEqual(one_of_league(7, SEVEN, "one_round", 0, 0, 7), [7, 0, 1, 2, 3, 4, 5, 6])

    def test_there_is_none(self):
        told = of_league(4, WINNER_LAST, ("one_round", 0, 3, 3), ("one_round", 0, 0, 4), ("one_round", 0, 0, 3),
                         ("one_rounds", 0, 3, 3))
        self.assertEqual(told, [[-33], [-33], [3, 0, 1, 2], [0]])


if __name__ == "__main__":
    unittest.main()
