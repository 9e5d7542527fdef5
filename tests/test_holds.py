"""What holds of the calls that are here, and the corners that the document names."""

import unittest
from itertools import permutations

from tests.helper import CIRCLE, FOUR, SEVEN, ask, by_number, number_of, of_league, table_told

START = ("start",)
SOME = ((1, 0), (2, 0), (2, 1), (3, 0), (3, CIRCLE), (3, 5), (4, FOUR), (4, 9), (4, 63), (5, 516), (5, 777))

# All that is asked of a whole league that no names are in, or that names can be taken out of.
COUNTS = ("one_rows", "one_strong", "two_threes", "three_threes")


def two_leagues(first, second):
    return (START, ("league", first[0]), ("one_games", 0, first[1]), ("league", second[0]), ("one_games", 1, second[1]))


def counts_of(players, number):
    return of_league(players, number, *[(name, 0) for name in COUNTS])


class Holds(unittest.TestCase):
    def test_one_behind_another(self):
        for first in SOME:
            for second in SOME:
                if first[0] + second[0] <= 7:
                    told = ask(*two_leagues(first, second), ("joined", 0, 1), *[("one_rows", k) for k in range(3)],
                               *[("three_threes", k) for k in range(3)], ("one_parts", 0), ("one_parts", 1),
                               ("one_parts", 2))
                    rows, threes, parts = told[6:9], told[9:12], told[12:15]
                    self.assertEqual(rows[2][0], rows[0][0] * rows[1][0])
                    self.assertEqual(threes[2][0], threes[0][0] + threes[1][0])
                    behind = [number + (first[0] if k % 2 == 0 else 0) for k, number in enumerate(parts[1][1:])]
                    self.assertEqual(parts[2], [parts[0][0] + parts[1][0]] + parts[0][1:] + behind)

    def test_one_into_another(self):
        for first in SOME:
            for second in SOME:
                if first[0] * second[0] <= 7:
                    told = ask(*two_leagues(first, second), ("into", 0, 1), *[("two_threes", k) for k in range(3)])
                    threes = [answer[0] for answer in told[6:]]
                    size = second[0]
                    self.assertEqual(threes[2], threes[0] * size * size * size + first[0] * threes[1])

    def test_one_left_out_so_that_all_others_still_come_to_all(self):
        for number in list(range(0, 1024, 5)):
            told = of_league(5, number, ("one_strong", 0), ("without", 0, 0), ("without", 0, 1), ("without", 0, 2),
                             *[("one_strong", k) for k in (1, 2, 3)], ("drop", 1), ("without", 0, 3), ("one_strong", 3),
                             ("drop", 1), ("without", 0, 4), ("one_strong", 3))
            if told[0] == [1]:
                self.assertIn([1], told[4:7] + [told[9], told[12]])

    def test_one_left_out_has_the_others_games(self):
        for number in range(0, 1024, 11):
            for i in range(5):
                others = [j for j in range(5) if j != i]
                told = of_league(5, number, ("without", 0, i),
                                 *[("one_beats", 0, a, b) for a in others for b in others],
                                 *[("one_beats", 1, a, b) for a in range(4) for b in range(4)])
                self.assertEqual(told[1:17], told[17:33])

    def test_alike_leagues_have_as_many_of_all(self):
        for players, number in ((3, CIRCLE), (4, FOUR), (4, 9), (5, 516)):
            won = by_number(players, number)[1]
            for way in permutations(range(players)):
                renamed = number_of(players, [(i, j) for i in range(players) for j in range(i + 1, players)
                                              if (way[j], way[i]) in won])
                told = ask(*two_leagues((players, number), (players, renamed)), ("alike", 0, 1), ("alike", 1, 0))
                self.assertEqual(sorted(told[5][1:]), list(range(players)))
                self.assertLessEqual(told[5][1:], list(way))
                self.assertEqual(sorted(told[6][1:]), list(range(players)))
                self.assertEqual(counts_of(players, number), counts_of(players, renamed))

    def test_a_way_that_is_told_renames_the_first_into_the_second(self):
        for number in range(0, 64, 3):
            for other in range(64):
                told = ask(*two_leagues((4, number), (4, other)), ("alike", 0, 1))[5]
                if told != [-33]:
                    won, goal = by_number(4, number)[1], by_number(4, other)[1]
                    way = told[1:]
                    for i, j in permutations(range(4), 2):
                        self.assertEqual((i, j) in goal, (way[i], way[j]) in won)

    def test_a_table_alone_tells_threes_and_parts(self):
        told_by_table = {}
        for number in range(1024):
            told = of_league(5, number, ("two_threes", 0), ("one_parts", 0), *[("one_part", 0, i) for i in range(5)])
            table = tuple(table_told(by_number(5, number)))
            self.assertEqual(told_by_table.setdefault(table, told), told)

    def test_leagues_are_told_of_by_themselves(self):
        asking = [("one_row",), ("one_rows",), ("one_parts",), ("two_table",), ("two_threes",), ("three_threes",)]
        alone = of_league(4, FOUR, *[(name, 0) for (name,) in asking])
        among = ask(START, ("league", 2), ("league", 7), ("one_games", 1, SEVEN), ("league", 4), ("two_games", 2, FOUR),
                    ("league", 1), *[(name, 2) for (name,) in asking])
        self.assertEqual(among[7:], alone)

    def test_there_is_always_an_odd_number_of_rows(self):
        for number in range(64):
            self.assertEqual(of_league(4, number, ("one_rows", 0))[0][0] % 2, 1)

    def test_a_table_can_be_just_if_a_league_has_it(self):
        for players, most in ((1, 2), (2, 3), (3, 4), (4, 4)):
            for table in self.tables(players, most):
                told = of_league(players, 0, ("two_can", 0, table), ("two_many", 0, table), ("two_make", 0, table))
                self.assertEqual(told[0] == [1], told[1][0] > 0)
                self.assertEqual(told[0] == [0], told[2] == [-33])

    def tables(self, players, most):
        tables = [[]]
        for step in range(players):
            tables = [table + [wins] for table in tables for wins in range(most + 1)]
        return tables


class Corners(unittest.TestCase):
    def test_a_change_taken_back_in_another_league(self):
        told = ask(START, ("league", 3), ("one_games", 0, CIRCLE), ("copy", 0), ("two_turnThree", 1, 0),
                   ("one_turn", 0, 0, 1), ("undo",), ("undo",), ("one_state", 0), ("one_state", 1), ("redo",),
                   ("one_state", 0), ("one_state", 1))
        self.assertEqual(told[6:], [[4], [3], [3, CIRCLE], [3, CIRCLE], [1], [3, CIRCLE], [3, 5]])

    def test_a_league_dropped_that_another_was_made_of_taken_back(self):
        told = ask(START, ("league", 2), ("into", 0, 0), ("drop", 0), ("state",), ("undo",), ("undo",), ("state",),
                   ("redo",), ("redo",), ("one_state", 0))
        self.assertEqual(told[3:], [[2], [1, 3, 0, 4], [2], [1], [1, 1, 2, 2], [1], [0], [4, 0]])

    def test_seven_players_made_of_others(self):
        told = ask(START, ("league", 3), ("one_games", 0, CIRCLE), ("joined", 0, 0), ("league", 1), ("joined", 1, 2),
                   ("one_parts", 3), ("one_rows", 3), ("two_threes", 3), ("two_table", 3))
        self.assertEqual(told[5:], [[3, 7, number_of(7, [(0, 2), (3, 5)])], [3, 0, 3, 3, 3, 6, 1], [9], [2],
                                    [7, 5, 5, 5, 2, 2, 2, 0]])


if __name__ == "__main__":
    unittest.main()
