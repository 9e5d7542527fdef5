"""Six: leagues turned into themselves. What it answers of seven players is in test_interface.py."""

import unittest
from itertools import permutations

from tests.helper import CIRCLE, CIRCLE_BACK, FOUR, GREATEST, WINNER_AHEAD, number_of, of_league, one_of_league

# Of five: i beat the two behind, round and round.
FIVE = number_of(5, [(0, 3), (0, 4), (1, 4)])
# Of six: a circle ahead of another one.
TWO_CIRCLES = number_of(6, [(0, 2), (3, 5)])


class Renamed(unittest.TestCase):
    def test_rename(self):
        # By the first way 0 has the games of 1, 1 those of 2, 2 those of 3, 3 those of 0.
        for way, pairs in (([1, 2, 3, 0], [(0, 3), (1, 3)]), ([3, 0, 1, 2], [(0, 2), (0, 3)]), ([0, 1, 2, 3], [(0, 3)]),
                           ([3, 1, 2, 0], [(0, 1), (0, 2), (1, 3), (2, 3)]),
                           ([3, 2, 1, 0], [(0, 1), (0, 2), (1, 2), (1, 3), (2, 3)])):
            number = number_of(4, pairs)
            told = of_league(4, FOUR, ("six_rename", 0, way), ("six_state", 0), ("one_state", 0))
            self.assertEqual(told, [[number], [4, number], [4, number]], way)

    def test_rename_of_one_two_and_six(self):
        self.assertEqual(one_of_league(1, 0, "six_rename", 0, [0]), [0])
        self.assertEqual(of_league(2, 0, ("six_rename", 0, [0, 1]), ("six_rename", 0, [1, 0])), [[0], [1]])
        told = of_league(6, 0, ("six_rename", 0, [5, 4, 3, 2, 1, 0]), ("six_rename", 0, [1, 0, 2, 3, 4, 5]))
        self.assertEqual(told, [[2 ** 15 - 1], [2 ** 15 - 2]])

    def test_rename_refused(self):
        for way in ([], [0], [0, 1, 2], [0, 1, 2, 2], [0, 1, 2, 4], [1, 2, 3, 4], [0, 1, 2, 3, 3], [0, 1, 2, 3, 4],
                    [0] * 60, list(range(60)), [0, 1, 2, GREATEST], [GREATEST] * 60):
            told = of_league(4, FOUR, ("six_rename", 0, way), ("six_state", 0))
            self.assertEqual(told, [[-22], [4, FOUR]], way)
        self.assertEqual(of_league(1, 0, ("six_rename", 0, []), ("six_rename", 0, [1])), [[-22], [-22]])

    def test_renamed_each_has_the_games_of_the_one_told(self):
        for way in permutations(range(4)):
            told = of_league(4, FOUR, *[("six_beats", 0, way[i], way[j]) for i in range(4) for j in range(4)],
                             ("six_rename", 0, list(way)), *[("six_beats", 0, i, j) for i in range(4) for j in range(4)])
            self.assertEqual(told[:16], told[17:])

    def test_back(self):
        for players, number in ((1, 0), (2, 0), (2, 1), (3, CIRCLE), (4, FOUR), (5, FIVE), (6, 0), (6, TWO_CIRCLES)):
            other = 2 ** (players * (players - 1) // 2) - 1 - number
            told = of_league(players, number, ("six_back", 0), ("six_state", 0), ("six_back", 0), ("one_state", 0))
            self.assertEqual(told, [[other], [players, other], [number], [players, number]])


class Itself(unittest.TestCase):
    def test_selves(self):
        for players, number, expected in ((1, 0, 1), (2, 0, 1), (2, 1, 1), (3, 0, 1), (3, CIRCLE, 3), (3, CIRCLE_BACK, 3),
                                          (4, FOUR, 1), (4, WINNER_AHEAD, 3), (5, FIVE, 5), (6, 0, 1),
                                          (6, TWO_CIRCLES, 9)):
            self.assertEqual(one_of_league(players, number, "six_selves", 0), [expected])

    def test_nth(self):
        told = of_league(3, CIRCLE, *[("six_nth", 0, k) for k in (0, 1, 2, 3, GREATEST)])
        self.assertEqual(told, [[3, 0, 1, 2], [3, 1, 2, 0], [3, 2, 0, 1], [-33], [-33]])
        told = of_league(4, WINNER_AHEAD, *[("six_nth", 0, k) for k in range(4)])
        self.assertEqual(told, [[4, 0, 1, 2, 3], [4, 0, 2, 3, 1], [4, 0, 3, 1, 2], [-33]])
        self.assertEqual(of_league(1, 0, ("six_nth", 0, 0), ("six_nth", 0, 1)), [[1, 0], [-33]])
        self.assertEqual(of_league(6, 0, ("six_nth", 0, 0), ("six_nth", 0, 1)), [[6, 0, 1, 2, 3, 4, 5], [-33]])
        told = of_league(6, TWO_CIRCLES, ("six_nth", 0, 1), ("six_nth", 0, 3), ("six_nth", 0, 8), ("six_nth", 0, 9))
        self.assertEqual(told, [[6, 0, 1, 2, 4, 5, 3], [6, 1, 2, 0, 3, 4, 5], [6, 2, 0, 1, 5, 3, 4], [-33]])

    def test_order(self):
        self.assertEqual(of_league(3, CIRCLE, *[("six_order", 0, k) for k in (0, 1, 2, 3, GREATEST)]),
                         [[1], [3], [3], [-33], [-33]])
        self.assertEqual(of_league(5, FIVE, *[("six_order", 0, k) for k in range(6)]), [[1], [5], [5], [5], [5], [-33]])
        self.assertEqual(of_league(6, TWO_CIRCLES, *[("six_order", 0, k) for k in range(10)]), [[1]] + [[3]] * 8 + [[-33]])
        self.assertEqual(of_league(1, 0, ("six_order", 0, 0), ("six_order", 0, 1)), [[1], [-33]])
        self.assertEqual(of_league(2, 0, ("six_order", 0, 0), ("six_order", 0, 1)), [[1], [-33]])

    def test_ways_into_itself_leave_it_as_it_is(self):
        for k in range(9):
            way = one_of_league(6, TWO_CIRCLES, "six_nth", 0, k)[1:]
            self.assertEqual(one_of_league(6, TWO_CIRCLES, "six_rename", 0, way), [TWO_CIRCLES])

    def test_alike_to(self):
        told = of_league(4, WINNER_AHEAD, *[("six_alikeTo", 0, i) for i in (0, 1, 2, 3, 4, GREATEST)])
        self.assertEqual(told, [[1, 0], [3, 1, 2, 3], [3, 1, 2, 3], [3, 1, 2, 3], [-2], [-2]])
        self.assertEqual(of_league(4, FOUR, *[("six_alikeTo", 0, i) for i in range(4)]), [[1, i] for i in range(4)])
        self.assertEqual(of_league(1, 0, ("six_alikeTo", 0, 0), ("six_alikeTo", 0, 1)), [[1, 0], [-2]])
        told = of_league(6, TWO_CIRCLES, *[("six_alikeTo", 0, i) for i in range(7)])
        self.assertEqual(told, [[3, 0, 1, 2]] * 3 + [[3, 3, 4, 5]] * 3 + [[-2]])

    def test_same(self):
        told = of_league(4, WINNER_AHEAD, *[("six_same", 0, i, j) for i in range(4) for j in range(4)])
        self.assertEqual(told, [[1], [0], [0], [0]] + [[0], [1], [1], [1]] * 3)
        told = of_league(4, FOUR, *[("six_same", 0, i, j) for i, j in ((2, 2), (2, 3), (4, 0), (0, 4), (4, 4),
                                                                       (GREATEST, GREATEST))])
        self.assertEqual(told, [[1], [0], [-2], [-2], [-2], [-2]])
        self.assertEqual(of_league(1, 0, ("six_same", 0, 0, 0), ("six_same", 0, 0, 1)), [[1], [-2]])


class Alike(unittest.TestCase):
    def test_alike(self):
        other = number_of(3, [(0, 1), (0, 2)])
        for number, goal, expected in ((CIRCLE, CIRCLE, [3, 0, 1, 2]), (CIRCLE, CIRCLE_BACK, [3, 0, 2, 1]),
                                       (CIRCLE_BACK, CIRCLE, [3, 0, 2, 1]), (0, other, [3, 2, 0, 1]),
                                       (other, 0, [3, 1, 2, 0]), (0, 0, [3, 0, 1, 2]), (0, 7, [3, 2, 1, 0]),
                                       (CIRCLE, 0, [-33]), (0, CIRCLE, [-33]), (CIRCLE, 8, [-22]),
                                       (CIRCLE, GREATEST, [-22])):
            self.assertEqual(one_of_league(3, number, "six_alike", 0, goal), expected)

    def test_alike_of_one_two_and_six(self):
        self.assertEqual(of_league(1, 0, ("six_alike", 0, 0), ("six_alike", 0, 1)), [[1, 0], [-22]])
        self.assertEqual(of_league(2, 1, *[("six_alike", 0, m) for m in range(3)]), [[2, 1, 0], [2, 0, 1], [-22]])
        told = of_league(6, 0, *[("six_alike", 0, m) for m in (0, 2 ** 15 - 1, TWO_CIRCLES, 2 ** 15)])
        self.assertEqual(told, [[6, 0, 1, 2, 3, 4, 5], [6, 5, 4, 3, 2, 1, 0], [-33], [-22]])

    def test_renamed_by_the_way_told_it_is_that_league(self):
        for number in range(0, 64, 5):
            for goal in range(64):
                told = one_of_league(4, number, "six_alike", 0, goal)
                if told != [-33]:
                    self.assertEqual(one_of_league(4, number, "six_rename", 0, told[1:]), [goal])

    def test_least(self):
        for players, number, expected in ((1, 0, 0), (2, 0, 0), (2, 1, 0), (3, 7, 0), (3, CIRCLE_BACK, 2), (4, FOUR, 4),
                                          (4, 63 - FOUR, 4), (4, 63, 0), (6, 2 ** 15 - 1, 0)):
            self.assertEqual(one_of_league(players, number, "six_least", 0), [expected])
        # A circle ahead of a loser has 2 as its least; a winner ahead of a circle has not one as low.
        self.assertEqual(one_of_league(4, number_of(4, [(0, 2)]), "six_least", 0), [2])
        self.assertEqual(one_of_league(4, 63 - number_of(4, [(1, 3)]), "six_least", 0), [2])

    def test_least_is_alike_and_none_that_is_alike_is_less(self):
        for number in range(64):
            least = one_of_league(4, number, "six_least", 0)[0]
            alike = [m for m in range(64) if one_of_league(4, number, "six_alike", 0, m) != [-33]]
            self.assertEqual(min(alike), least)
            self.assertEqual(one_of_league(4, number, "six_others", 0), [len(alike)])

    def test_others(self):
        for players, number, expected in ((1, 0, 1), (2, 0, 2), (2, 1, 2), (3, 0, 6), (3, CIRCLE, 2), (4, FOUR, 24),
                                          (4, WINNER_AHEAD, 8), (5, FIVE, 24), (6, 0, 720), (6, TWO_CIRCLES, 80)):
            self.assertEqual(one_of_league(players, number, "six_others", 0), [expected])

    def test_back_alike(self):
        for players, number, expected in ((1, 0, 1), (2, 0, 1), (3, 0, 1), (3, CIRCLE, 1), (4, FOUR, 1), (4, 63, 1),
                                          (4, WINNER_AHEAD, 0), (4, number_of(4, [(0, 2)]), 0), (5, FIVE, 1), (6, 0, 1),
                                          (6, TWO_CIRCLES, 1)):
            told = of_league(players, number, ("six_backAlike", 0), ("six_state", 0))
            self.assertEqual(told, [[expected], [players, number]])

    def test_classes(self):
        for players, expected in ((1, 1), (2, 1), (3, 2), (4, 4), (5, -28), (6, -28), (7, -28)):
            told = of_league(players, 0, ("six_classes", 0), ("two_table", 0))
            self.assertEqual(told, [[expected], [players] + list(range(players))[::-1]])
        self.assertEqual(one_of_league(4, FOUR, "six_classes", 0), [4])
        self.assertEqual(one_of_league(3, CIRCLE, "six_classes", 0), [2])

    def test_classes_are_as_many_as_there_are_leasts(self):
        for players in (1, 2, 3, 4):
            numbers = range(2 ** (players * (players - 1) // 2))
            leasts = {one_of_league(players, number, "six_least", 0)[0] for number in numbers}
            self.assertEqual(one_of_league(players, 0, "six_classes", 0), [len(leasts)])


if __name__ == "__main__":
    unittest.main()
