"""The calls that each stage has: start, games, turn, beats, wins, state."""

import unittest

from tests.helper import CIRCLE, FOUR, GREATEST, SEVEN, ask, last, number_of, of_league, one_of_league

START = ("start",)
STAGES = ("one", "two", "three", "four", "five", "six")


def most_of(stage):
    """Six is of 6 players at most."""
    return 6 if stage == "six" else 7


class EachStage(unittest.TestCase):
    def test_start(self):
        for stage in STAGES:
            for players in range(1, most_of(stage) + 1):
                told = ask(START, ("league", 3), ("one_games", 0, 7), (f"{stage}_start", 0, players), ("one_state", 0),
                           ("two_table", 0))
                self.assertEqual(told[3:], [[0], [players, 0], [players] + list(range(players))[::-1]])

    def test_start_refused(self):
        for stage in STAGES:
            for players in (0, most_of(stage) + 1, 8, GREATEST):
                told = of_league(3, CIRCLE, (f"{stage}_start", 0, players), ("one_state", 0))
                self.assertEqual(told, [[-22], [3, CIRCLE]])

    def test_start_of_seven_players(self):
        for stage in STAGES:
            told = of_league(7, SEVEN, (f"{stage}_start", 0, 2), (f"{stage}_start", 0, 0), ("one_state", 0))
            expected = [[-28], [-28], [7, SEVEN]] if stage == "six" else [[0], [-22], [2, 0]]
            self.assertEqual(told, expected)

    def test_start_is_of_one_league_alone(self):
        for stage in STAGES:
            told = ask(START, ("league", 2), ("league", 3), ("league", 4), (f"{stage}_start", 1, 6), ("state",))
            self.assertEqual(told[4:], [[0], [3, 4, 0, 2, 6, 4]])

    def test_games(self):
        for stage in STAGES:
            for players, many in ((1, 0), (2, 1), (3, 3), (4, 6), (5, 10), (6, 15), (7, 21))[:most_of(stage)]:
                end = 2 ** many
                told = ask(START, ("league", players), (f"{stage}_games", 0, end - 1), ("one_state", 0),
                           (f"{stage}_games", 0, end), ("two_state", 0), (f"{stage}_games", 0, 0), ("one_state", 0))
                self.assertEqual(told[2:], [[many], [players, end - 1], [-22], [players, end - 1], [many], [players, 0]])

    def test_games_far_too_great(self):
        for stage in STAGES:
            for players in (1, 2, most_of(stage)):
                self.assertEqual(one_of_league(players, 0, f"{stage}_games", 0, GREATEST), [-22])

    def test_the_order_of_the_games(self):
        pairs = [(0, 1), (0, 2), (0, 3), (1, 2), (1, 3), (2, 3)]
        for stage in STAGES:
            for k, (i, j) in enumerate(pairs):
                told = of_league(4, 2 ** k, (f"{stage}_beats", 0, j, i), (f"{stage}_beats", 0, i, j),
                                 ("two_same", 0, 2 ** k), *[("one_beats", 0, a, b) for a, b in pairs])
                self.assertEqual(told, [[1], [0], [1]] + [[int(pair != (i, j))] for pair in pairs])

    def test_turn(self):
        for stage in STAGES:
            turn = f"{stage}_turn"
            told = of_league(4, 0, (turn, 0, 0, 3), ("one_state", 0), (turn, 0, 0, 3), ("one_state", 0), (turn, 0, 2, 1),
                             ("one_state", 0), (turn, 0, 2, 1), ("one_state", 0))
            self.assertEqual(told, [[3], [4, FOUR], [0], [4, 0], [2], [4, 8], [1], [4, 0]])

    def test_turn_refused(self):
        for stage in STAGES:
            turn = f"{stage}_turn"
            told = of_league(3, CIRCLE, (turn, 0, 3, 0), (turn, 0, 0, 3), (turn, 0, 3, 3), (turn, 0, GREATEST, GREATEST),
                             (turn, 0, 2, 2), (turn, 0, 0, 0), ("one_state", 0))
            self.assertEqual(told, [[-2], [-2], [-2], [-2], [-22], [-22], [3, CIRCLE]])
            self.assertEqual(one_of_league(1, 0, turn, 0, 0, 0), [-22])
            self.assertEqual(one_of_league(1, 0, turn, 0, 0, 1), [-2])

    def test_beats(self):
        for stage in STAGES:
            beats = f"{stage}_beats"
            told = of_league(3, CIRCLE, *[(beats, 0, i, j) for i in range(3) for j in range(3)])
            self.assertEqual(told, [[0], [1], [0], [0], [0], [1], [1], [0], [0]])
            told = of_league(3, CIRCLE, (beats, 0, 3, 0), (beats, 0, 0, 3), (beats, 0, 3, 3), (beats, 0, GREATEST, 0))
            self.assertEqual(told, [[-2]] * 4)

    def test_wins(self):
        for stage in STAGES:
            wins = f"{stage}_wins"
            told = of_league(4, FOUR, *[(wins, 0, i) for i in (0, 1, 2, 3, 4, GREATEST)])
            self.assertEqual(told, [[2], [2], [1], [1], [-2], [-2]])
            self.assertEqual(of_league(1, 0, (wins, 0, 0), (wins, 0, 1)), [[0], [-2]])
            told = of_league(7, SEVEN, *[(wins, 0, i) for i in range(8)])
            self.assertEqual(told, [[-28]] * 8 if stage == "six" else [[3]] * 7 + [[-2]])
            told = of_league(6, 0, *[(wins, 0, i) for i in range(7)])
            self.assertEqual(told, [[5], [4], [3], [2], [1], [0], [-2]])

    def test_of_two_leagues_each_tells_its_own(self):
        for stage in STAGES:
            told = ask(START, ("league", 2), ("league", 2), (f"{stage}_games", 1, 1), (f"{stage}_beats", 0, 0, 1),
                       (f"{stage}_beats", 1, 0, 1), (f"{stage}_wins", 0, 1), (f"{stage}_wins", 1, 1))
            self.assertEqual(told[4:], [[1], [0], [0], [1]])

    def test_states(self):
        for stage in STAGES:
            self.assertEqual(one_of_league(1, 0, f"{stage}_state", 0), [1, 0])
            self.assertEqual(one_of_league(4, 45, f"{stage}_state", 0), [4, 45])
            self.assertEqual(one_of_league(6, 2 ** 15 - 1, f"{stage}_state", 0), [6, 2 ** 15 - 1])
            told = one_of_league(7, 2 ** 21 - 1, f"{stage}_state", 0)
            self.assertEqual(told, [-28] if stage == "six" else [7, 2 ** 21 - 1])
            told = last(START, ("league", 5), ("one_turn", 0, 3, 4), (f"{stage}_state", 0))
            self.assertEqual(told, [5, number_of(5, [(3, 4)])])


if __name__ == "__main__":
    unittest.main()
