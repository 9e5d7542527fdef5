"""Lines of all calls against the second, plain telling of what they answer: all small leagues, and many lines.

The lines are drawn by a fixed seed each, so that a failure comes again.
"""

import random
import unittest
from functools import lru_cache

from tests.helper import GIVEN, GREATEST, LISTS, NUMBERS, Reference, ask, reference

LINES = 300
# Calls that are drawn more often than the others: those that make leagues and games.
OFTEN = ["league", "copy", "joined", "into", "without", "undo", "redo"] * 2
OFTEN += ["one_games", "two_games", "three_games", "four_games", "five_games", "six_games"] * 4
OFTEN += ["two_make", "two_turnThree", "five_squares", "six_rename", "six_back"]
ALONE = [name for name in NUMBERS if GIVEN[name] == "l" and "_" in name and name != "six_back"]


class Drawn:
    """A line as it is drawn, with what the reference answers; it tells which leagues there are just then."""

    def __init__(self, seed):
        self.source = random.Random(seed)
        self.whole = Reference()
        self.line = []
        self.expected = []
        names = [name for name in NUMBERS if name != "start"] + OFTEN
        self.names = names if seed % 2 else [name for name in names if name not in ("drop", "undo")]
        if seed % 20:
            self.add(("start",))
        while len(self.line) < 200:
            self.add(self.call())

    def add(self, call):
        self.line.append(call)
        self.expected.append(self.whole.told(call))

    def call(self):
        if self.source.random() < 0.004:
            return ("start",)
        # Else it would come too seldom right behind something that was taken back.
        if self.whole.after and self.source.random() < 0.15:
            return ("redo",)
        name = self.source.choice(self.names)
        if not self.whole.leagues and self.source.random() < 0.5:
            name = "league"
        players = self.source.randrange(1, 8)
        given = []
        for kind in GIVEN[name]:
            given.append(self.given(kind, players))
            if kind == "l" and given[-1] < len(self.whole.leagues or []):
                players = self.whole.leagues[given[-1]][0]
        return (name, *given)

    def given(self, kind, players):
        if kind in LISTS:
            return self.told_list(kind, players)
        if self.source.random() < 0.04:
            return self.source.choice((0, 8, GREATEST))
        if kind == "q":
            return self.source.choice((3, 3, 7, 7, 1, 5))
        first = {"n": self.source.choice((1, 4)), "c": 3}.get(kind, 0)
        end = {"l": len(self.whole.leagues or []), "p": players, "n": 8, "m": 2 ** (players * (players - 1) // 2),
               "c": players + 1, "k": self.source.choice((2, players, 15)), "s": 2 ** players,
               "t": self.source.choice((1, 10, 1001)), "e": 21}[kind]
        # At times one more than there are, so that it is refused.
        return self.source.randrange(first, max(end, first + 1) + (self.source.random() < 0.2))

    def told_list(self, kind, players):
        if self.source.random() < 0.06:
            return self.source.choice(([], [0] * 60, [GREATEST] * 60, [1] * 30, [1] * 31, [GREATEST]))
        if self.source.random() < 0.1:
            players = self.source.randrange(1, 8)
        return {"R": self.row, "W": self.table, "P": self.some_players}[kind](players)

    def some_players(self, players):
        return [self.source.randrange(players) for step in range(self.source.randrange(12))]

    def row(self, players):
        row = list(range(players))
        self.source.shuffle(row)
        return row

    def table(self, players):
        table = [0] * players
        for i in range(players):
            for j in range(i + 1, players):
                table[self.source.choice((i, j))] += 1
        if self.source.random() < 0.3:
            table[self.source.randrange(players)] = self.source.choice((0, 1, 6, 30, 31, GREATEST))
        return table


@lru_cache(maxsize=None)
def drawn(seed):
    return Drawn(seed)


class AgainstReference(unittest.TestCase):
    def same(self, line, expected):
        told = ask(*line)
        for place, (call, answer, wanted) in enumerate(zip(line, told, expected)):
            self.assertEqual(answer, wanted, f"call {place}, {call}")

    def test_many_lines_of_200_calls(self):
        for seed in range(LINES):
            with self.subTest(seed=seed):
                self.same(drawn(seed).line, drawn(seed).expected)

    def test_the_lines_hold_every_call_answered_and_refused(self):
        often = {name: 0 for name in NUMBERS}
        refusals = {name: set() for name in NUMBERS}
        for seed in range(LINES):
            for call, answer in zip(drawn(seed).line, drawn(seed).expected):
                if answer[0] >= 0:
                    often[call[0]] += 1
                else:
                    refusals[call[0]].add(answer[0])
        for name in NUMBERS:
            self.assertGreater(often[name], 20, name)
        for name, kinds in (("alike", (-2, -22, -33)), ("one_round", (-2, -22, -33)), ("two_turns", (-2, -22, -28, -33)),
                            ("two_make", (-2, -22, -33)), ("without", (-2, -22, -28)), ("three_byWins", (-2, -22, -33)),
                            ("three_most", (-2, -22)), ("three_within", (-2,)), ("four_order", (-2, -22, -33)),
                            ("four_adds", (-2, -22, -33)), ("five_squares", (-2, -22)), ("five_needs", (-2, -22)),
                            ("six_start", (-2, -22, -28)), ("six_rename", (-2, -22, -28)), ("six_order", (-2, -28, -33)),
                            ("six_alike", (-2, -22, -28, -33)), ("six_classes", (-2, -28))):
            self.assertEqual(refusals[name] - {-11}, set(kinds), name)

    def test_all_leagues_of_up_to_four_players(self):
        for players in range(1, 5):
            for number in range(2 ** (players * (players - 1) // 2)):
                begin = [("start",), ("league", players), ("one_games", 0, number)]
                for calls in ([(name, 0) for name in ALONE], asking_players(players), asking_numbers(), asking_sets(),
                              asking_ways(number)):
                    self.same(begin + calls, reference(*begin, *calls))

    def test_leagues_of_five_and_more_players(self):
        for players, step in ((5, 7), (6, 911), (7, 50021)):
            for number in range(0, 2 ** (players * (players - 1) // 2), step):
                begin = [("start",), ("league", players), ("one_games", 0, number)]
                calls = [(name, 0) for name in ALONE] + [("six_back", 0), ("six_state", 0), ("undo",)]
                calls += [("five_any", 0, k) for k in range(5)] + [("four_many", 0, k) for k in range(6)]
                self.same(begin + calls, reference(*begin, *calls))


def asking_players(players):
    calls = []
    for i in range(players):
        calls += [(name, 0, i) for name in ("one_wins", "one_part", "one_begins", "two_rank", "three_of", "four_among",
                                            "six_alikeTo")]
        calls += [(name, 0, i, k) for name in ("one_rounds", "one_round") for k in (3, 4)]
        for j in range(players):
            calls += [(name, 0, i, j) for name in ("one_beats", "one_comes", "one_between", "three_through",
                                                   "three_would", "six_same")]
    return calls


def asking_numbers():
    calls = []
    for k in range(7):
        calls += [(name, 0, k) for name in ("one_nth", "two_three", "three_nth", "four_many", "five_any", "six_nth",
                                            "six_order")]
    for m in range(0, 64, 3):
        calls += [("two_differ", 0, m), ("two_same", 0, m), ("two_turns", 0, m), ("six_alike", 0, m)]
    for k in range(3):
        calls += [("two_turnThree", 0, k), ("one_state", 0), ("undo",)]
    return calls


def asking_sets():
    return [(name, 0, s) for s in range(18) for name in ("four_inOrder", "four_order", "four_adds", "five_covers",
                                                         "five_left", "five_over")]


def asking_ways(number):
    calls = []
    for way in ([0], [1, 0], [1, 2, 0], [2, 0, 1], [1, 2, 3, 0], [0, 2, 3, 1], [3, 1, 0, 2]):
        calls += [("six_rename", 0, way), ("six_state", 0), ("six_alike", 0, number)]
    return calls + [("six_back", 0), ("six_state", 0), ("six_alike", 0, number)]


if __name__ == "__main__":
    unittest.main()
