"""Two: wins that can be."""

import unittest

from tests.helper import CIRCLE, CIRCLE_BACK, FOUR, GREATEST, SEVEN, number_of, of_league, one_of_league


class Tables(unittest.TestCase):
    def test_table(self):
        self.assertEqual(one_of_league(1, 0, "two_table", 0), [1, 0])
        self.assertEqual(one_of_league(2, 1, "two_table", 0), [2, 0, 1])
        self.assertEqual(one_of_league(4, FOUR, "two_table", 0), [4, 2, 2, 1, 1])
        self.assertEqual(one_of_league(7, 0, "two_table", 0), [7, 6, 5, 4, 3, 2, 1, 0])
        self.assertEqual(one_of_league(7, SEVEN, "two_table", 0), [7] + [3] * 7)

    def test_rank(self):
        self.assertEqual(of_league(4, FOUR, *[("two_rank", 0, i) for i in range(5)]), [[0], [0], [2], [2], [-2]])
        self.assertEqual(of_league(7, 0, *[("two_rank", 0, i) for i in range(7)]), [[i] for i in range(7)])
        self.assertEqual(of_league(1, 0, ("two_rank", 0, 0), ("two_rank", 0, 1), ("two_rank", 0, GREATEST)), [[0], [-2], [-2]])

    def test_can(self):
        for table, expected in (([0], 1), ([1], 0), ([0, 1], 1), ([1, 0], 1), ([1, 1], 0), ([0, 0], 0), ([2, 0], 0),
                                ([1, 1, 1], 1), ([2, 1, 0], 1), ([0, 2, 1], 1), ([3, 0, 0], 0), ([2, 2, 2], 0),
                                ([3, 3, 0, 0], 0), ([3, 1, 1, 1], 1), ([0, 2, 2, 2], 1), ([2, 2, 1, 1], 1),
                                ([4, 4, 1, 1, 0], 0), ([4, 2, 2, 1, 1], 1), ([3] * 7, 1), ([6, 5, 4, 3, 2, 1, 0], 1),
                                ([6, 6, 3, 3, 2, 1, 0], 0), ([GREATEST] * 7, 0), ([GREATEST], 0)):
            self.assertEqual(one_of_league(3, CIRCLE, "two_can", 0, table), [expected], table)

    def test_can_refused(self):
        for table in ([], [0] * 8, list(range(8)), [0] * 60, [GREATEST] * 60):
            self.assertEqual(one_of_league(3, CIRCLE, "two_can", 0, table), [-22], table)

    def test_beyond(self):
        # Of the rising 0, 0, 3, 3: 0, 0, 0 less 1, 3 less 3, 6 less 6.
        told = of_league(1, 0, *[("two_beyond", 0, k, [3, 0, 3, 0]) for k in range(6)])
        self.assertEqual(told, [[0, 0, 0], [0, 0, 0], [0, 0, 1], [0, 0, 0], [0, 0, 0], [-22]])
        told = of_league(1, 0, *[("two_beyond", 0, k, [5, 2, 9]) for k in range(5)])
        self.assertEqual(told, [[0, 0, 0], [0, 2, 0], [0, 6, 0], [0, 13, 0], [-22]])
        self.assertEqual(one_of_league(1, 0, "two_beyond", 0, 7, [0] * 7), [0, 0, 21])
        self.assertEqual(one_of_league(1, 0, "two_beyond", 0, 7, [GREATEST] * 7), [0, 7 * GREATEST - 21, 0])

    def test_beyond_refused(self):
        for k, table in ((0, []), (1, []), (2, [0]), (8, [0] * 7), (GREATEST, [0] * 7), (1, [0] * 8), (0, [0] * 60)):
            self.assertEqual(one_of_league(1, 0, "two_beyond", 0, k, table), [-22], (k, table))


class Made(unittest.TestCase):
    def test_make(self):
        for players, table, number in ((1, [0], 0), (2, [1, 0], 0), (2, [0, 1], 1), (3, [2, 1, 0], 0),
                                       (3, [1, 1, 1], CIRCLE), (3, [0, 1, 2], 7), (3, [1, 2, 0], 1),
                                       (4, [2, 2, 1, 1], FOUR), (4, [0, 1, 2, 3], 63), (5, [4, 3, 2, 1, 0], 0)):
            told = of_league(players, 0, ("two_make", 0, table), ("two_state", 0), ("two_table", 0))
            self.assertEqual(told, [[number], [players, number], [players] + table])

    def test_make_the_least(self):
        # Both circles have this table; the lesser number is that of the first.
        told = of_league(3, CIRCLE_BACK, ("two_make", 0, [1, 1, 1]), ("two_state", 0))
        self.assertEqual(told, [[CIRCLE], [3, CIRCLE]])

    def test_make_refused(self):
        told = of_league(3, CIRCLE, *[("two_make", 0, table) for table in
                                      ([], [0], [1, 0], [2, 1, 1, 2], [0] * 60, [2, 2, 2], [3, 0, 0], [GREATEST] * 3)],
                         ("two_state", 0))
        self.assertEqual(told, [[-22]] * 5 + [[-33]] * 3 + [[3, CIRCLE]])
        self.assertEqual(one_of_league(1, 0, "two_make", 0, [1]), [-33])
        for players in (6, 7):
            table = list(range(players))
            told = of_league(players, 0, ("two_make", 0, table), ("two_make", 0, [9] * players), ("two_state", 0))
            self.assertEqual(told, [[-22], [-22], [players, 0]])
        self.assertEqual(one_of_league(6, 0, "two_make", 0, [4, 3, 2, 1, 0]), [-22])

    def test_many(self):
        for table, expected in (([0], 1), ([1], 0), ([1, 0], 1), ([0, 0], 0), ([1, 1, 1], 2), ([2, 1, 0], 1),
                                ([1, 2, 0], 1), ([2, 2, 1, 1], 4), ([3, 1, 1, 1], 2), ([2, 2, 2, 0], 2),
                                ([3, 3, 0, 0], 0), ([2, 2, 2, 2, 2], 24), ([GREATEST] * 5, 0)):
            for players in (1, 7):
                self.assertEqual(one_of_league(players, 0, "two_many", 0, table), [expected], table)

    def test_many_of_all_tables_are_all_leagues(self):
        # Of four players no table has a number above 3.
        tables = [[a, b, c, 6 - a - b - c] for a in range(4) for b in range(4) for c in range(4) if a + b + c <= 6]
        calls = [("two_many", 0, table) for table in tables]
        told = [of_league(1, 0, *calls[at:at + 150]) for at in range(0, len(calls), 150)]
        self.assertEqual(sum(answer[0] for part in told for answer in part), 64)

    def test_many_refused(self):
        for table in ([], [0] * 6, [5, 4, 3, 2, 1, 0], [3] * 7, [0] * 8, [0] * 60):
            self.assertEqual(one_of_league(3, 0, "two_many", 0, table), [-22], table)


class Threes(unittest.TestCase):
    def test_threes(self):
        for players, number, expected in ((1, 0, 0), (2, 1, 0), (3, 0, 0), (3, CIRCLE, 1), (3, CIRCLE_BACK, 1),
                                          (4, FOUR, 2), (7, 0, 0), (7, SEVEN, 14)):
            self.assertEqual(one_of_league(players, number, "two_threes", 0), [expected])

    def test_three(self):
        told = of_league(4, FOUR, *[("two_three", 0, k) for k in (0, 1, 2, GREATEST)])
        self.assertEqual(told, [[0, 1, 3], [0, 2, 3], [-33], [-33]])
        self.assertEqual(one_of_league(3, CIRCLE_BACK, "two_three", 0, 0), [0, 2, 1])
        for players in (1, 2, 7):
            self.assertEqual(one_of_league(players, 0, "two_three", 0, 0), [-33])
        self.assertEqual(of_league(7, SEVEN, ("two_three", 0, 13), ("two_three", 0, 14))[1], [-33])

    def test_turn_three(self):
        told = of_league(4, FOUR, ("two_turnThree", 0, 1), ("two_state", 0), ("two_table", 0))
        # 0, 2, 3 are turned: 2 beat 0, 3 beat 2, 0 beat 3.
        number = number_of(4, [(0, 2), (2, 3)])
        self.assertEqual(told, [[number], [4, number], [4, 2, 2, 1, 1]])
        self.assertEqual(one_of_league(3, CIRCLE, "two_turnThree", 0, 0), [CIRCLE_BACK])
        self.assertEqual(one_of_league(3, CIRCLE_BACK, "two_turnThree", 0, 0), [CIRCLE])

    def test_turn_three_refused(self):
        told = of_league(4, FOUR, ("two_turnThree", 0, 2), ("two_turnThree", 0, GREATEST), ("two_state", 0))
        self.assertEqual(told, [[-33], [-33], [4, FOUR]])
        for players in (1, 2, 7):
            self.assertEqual(one_of_league(players, 0, "two_turnThree", 0, 0), [-33])


class HeldAgainst(unittest.TestCase):
    def test_differ(self):
        told = of_league(4, FOUR, *[("two_differ", 0, m) for m in (FOUR, 0, 5, 63, 64, GREATEST)])
        self.assertEqual(told, [[0], [1], [1], [5], [-22], [-22]])
        self.assertEqual(of_league(1, 0, ("two_differ", 0, 0), ("two_differ", 0, 1)), [[0], [-22]])
        self.assertEqual(of_league(7, 0, ("two_differ", 0, 2 ** 21 - 1), ("two_differ", 0, 2 ** 21)), [[21], [-22]])

    def test_same(self):
        told = of_league(3, CIRCLE, *[("two_same", 0, m) for m in (CIRCLE, CIRCLE_BACK, 0, 7, 8, GREATEST)])
        self.assertEqual(told, [[1], [1], [0], [0], [-22], [-22]])
        self.assertEqual(of_league(2, 0, ("two_same", 0, 1), ("two_same", 0, 0), ("two_same", 0, 2)), [[0], [1], [-22]])
        self.assertEqual(of_league(7, SEVEN, ("two_same", 0, 2 ** 21 - 1 - SEVEN), ("two_same", 0, 0)), [[1], [0]])

    def test_turns(self):
        told = of_league(3, CIRCLE, *[("two_turns", 0, m) for m in (CIRCLE, CIRCLE_BACK, 0, 8, GREATEST)])
        self.assertEqual(told, [[0], [1], [-33], [-22], [-22]])
        self.assertEqual(of_league(1, 0, ("two_turns", 0, 0), ("two_turns", 0, 1)), [[0], [-22]])
        self.assertEqual(of_league(2, 0, ("two_turns", 0, 0), ("two_turns", 0, 1)), [[0], [-33]])

    def test_turns_each_as_it_is_then(self):
        # Of the four leagues with the table 2, 2, 1, 1 each has two rounds of three: they are a ring by them.
        told = of_league(4, FOUR, *[("two_turns", 0, m) for m in range(64)])
        reached = {m: answer[0] for m, answer in enumerate(told) if answer != [-33]}
        self.assertEqual(sorted(reached.values()), [0, 1, 1, 2])
        self.assertEqual(reached[FOUR], 0)
        self.assertEqual(reached[number_of(4, [(0, 2), (2, 3)])], 1)
        self.assertEqual(reached[number_of(4, [(0, 1), (1, 3)])], 1)

    def test_turns_of_five_and_more(self):
        told = of_league(5, 0, ("two_turns", 0, 0), ("two_turns", 0, 1023), ("two_turns", 0, 1024))
        self.assertEqual(told, [[0], [-33], [-22]])
        for players, end in ((6, 2 ** 15), (7, 2 ** 21)):
            told = of_league(players, 0, ("two_turns", 0, 0), ("two_turns", 0, end - 1), ("two_turns", 0, end))
            self.assertEqual(told, [[-28], [-28], [-22]])


if __name__ == "__main__":
    unittest.main()
