"""What holds, a to d, over drawn leagues, and the corners that the document names."""

import random
import unittest
from functools import lru_cache
from itertools import permutations

from tests.helper import (CHANGES, CIRCLE, FOUR, SEVEN, STAGES, all_told, ask, by_number, last, number_of, of_league,
                          table_told)

START = ("start",)
SOME = ((1, 0), (2, 0), (2, 1), (3, 0), (3, CIRCLE), (3, 5), (4, FOUR), (4, 9), (4, 63), (5, 516), (5, 777))

# What is asked of a whole league, and has no players' names in its answer.
COUNTS = ("one_rows", "one_strong", "two_threes", "three_threes", "three_level", "three_fours", "four_most", "four_leave",
          "four_all", "five_fewest", "five_many", "five_deep", "six_selves", "six_least", "six_backAlike", "six_others",
          "six_classes")
# What is asked of a player.
OF_PLAYERS = ("one_wins", "one_begins", "two_rank", "three_of", "four_among")


def games_end(players):
    return 2 ** (players * (players - 1) // 2)


@lru_cache(maxsize=None)
def drawn(players, many):
    """Some leagues of so many players, drawn by a fixed seed."""
    source = random.Random(players)
    return [(players, source.randrange(games_end(players))) for step in range(many)]


def drawn_pairs():
    source = random.Random(0)
    some = list(SOME) + [league for players in (3, 4, 5, 6) for league in drawn(players, 12)]
    pairs = [(first, second) for first in SOME for second in SOME]
    return pairs + [(source.choice(some), source.choice(some)) for step in range(400)]


def two_leagues(first, second):
    return (START, ("league", first[0]), ("one_games", 0, first[1]), ("league", second[0]), ("one_games", 1, second[1]))


def of_each(name, leagues=3):
    return [(name, k) for k in range(leagues)]


def numbers(told):
    return [answer[0] for answer in told]


class OneBehindAnother(unittest.TestCase):
    """a."""

    def pairs(self, most=7):
        return [pair for pair in drawn_pairs() if pair[0][0] + pair[1][0] <= most]

    def test_rows_multiply(self):
        for first, second in self.pairs():
            rows = numbers(ask(*two_leagues(first, second), ("joined", 0, 1), *of_each("one_rows"))[6:])
            self.assertEqual(rows[2], rows[0] * rows[1])

    def test_rounds_of_three_add(self):
        for first, second in self.pairs():
            threes = numbers(ask(*two_leagues(first, second), ("joined", 0, 1), *of_each("three_threes"))[6:])
            self.assertEqual(threes[2], threes[0] + threes[1])

    def test_those_in_order_add(self):
        for first, second in self.pairs():
            most = numbers(ask(*two_leagues(first, second), ("joined", 0, 1), *of_each("four_most"))[6:])
            self.assertEqual(most[2], most[0] + most[1])

    def test_ways_into_itself_multiply(self):
        for first, second in self.pairs(6):
            selves = numbers(ask(*two_leagues(first, second), ("joined", 0, 1), *of_each("six_selves"))[6:])
            self.assertEqual(selves[2], selves[0] * selves[1])

    def test_who_beats_all_of_the_first_beats_all(self):
        for first, second in self.pairs():
            sets = range(2 ** first[0])
            told = ask(*two_leagues(first, second), ("joined", 0, 1), ("five_fewest", 0), ("five_fewest", 2),
                       *[("five_covers", 0, s) for s in sets], *[("five_covers", 2, s) for s in sets])[6:]
            self.assertEqual(told[0], told[1])
            self.assertEqual(told[2:2 + len(sets)], told[2 + len(sets):])

    def test_parts_stand_one_behind_another(self):
        for first, second in self.pairs():
            parts = ask(*two_leagues(first, second), ("joined", 0, 1), *of_each("one_parts"))[6:]
            behind = [number + (first[0] if k % 2 == 0 else 0) for k, number in enumerate(parts[1][1:])]
            self.assertEqual(parts[2], [parts[0][0] + parts[1][0]] + parts[0][1:] + behind)


class OneIntoAnother(unittest.TestCase):
    """b."""

    def pairs(self):
        return [pair for pair in drawn_pairs() if pair[0][0] * pair[1][0] <= 7]

    def test_those_in_order_multiply(self):
        for first, second in self.pairs():
            most = numbers(ask(*two_leagues(first, second), ("into", 0, 1), *of_each("four_most"))[6:])
            self.assertEqual(most[2], most[0] * most[1])

    def test_rounds_of_three(self):
        for first, second in self.pairs():
            threes = numbers(ask(*two_leagues(first, second), ("into", 0, 1), *of_each("two_threes"))[6:])
            self.assertEqual(threes[2], threes[0] * second[0] ** 3 + first[0] * threes[1])


class OneLeftOut(unittest.TestCase):
    """c."""

    def without_each(self, players, number, name):
        """What is told of the league, and of it without each of its players."""
        told = [of_league(players, number, (name, 0))[0][0]]
        for i in range(players):
            told.append(of_league(players, number, ("without", 0, i), (name, 1))[1][0])
        return told

    def test_those_in_order_are_one_fewer_at_most(self):
        for players in (2, 3, 4, 5, 6, 7):
            for league in drawn(players, 20):
                told = self.without_each(*league, "four_most")
                self.assertLessEqual(set(told[1:]), {told[0] - 1, told[0]})

    def test_somebody_can_be_left_out_so_that_all_others_still_come_to_all(self):
        strong = 0
        for players in (4, 5, 6, 7):
            for league in drawn(players, 40):
                told = self.without_each(*league, "one_strong")
                if told[0] == 1:
                    strong += 1
                    self.assertIn(1, told[1:])
        self.assertGreater(strong, 40)

    def test_of_three_who_all_come_to_all_nobody_can(self):
        self.assertEqual(self.without_each(3, CIRCLE, "one_strong"), [1, 0, 0, 0])

    def test_the_others_have_their_games(self):
        for league in drawn(5, 40):
            for i in range(5):
                others = [j for j in range(5) if j != i]
                told = of_league(*league, ("without", 0, i), *[("one_beats", 0, a, b) for a in others for b in others],
                                 *[("one_beats", 1, a, b) for a in range(4) for b in range(4)])
                self.assertEqual(told[1:17], told[17:33])


class AlikeLeagues(unittest.TestCase):
    """d."""

    def counts(self, players, number):
        told = of_league(players, number, *[(name, 0) for name in COUNTS], ("one_parts", 0), ("three_calm", 0),
                         ("three_busiest", 0), ("four_best", 0), ("five_first", 0), ("five_bare", 0))
        alone = told[:len(COUNTS)]
        sizes, calm, busiest, best, first, bare = told[len(COUNTS):]
        many = of_league(players, number, *[("four_many", 0, k) for k in range(players + 1)],
                         *[("five_any", 0, k) for k in range(players + 2)])
        each = [sorted(of_league(players, number, *[(name, 0, i) for i in range(players)])) for name in OF_PLAYERS]
        return alone, many, each, sizes[2::2], calm[0], busiest[1], len(best), len(first), bare[0]

    def test_alike_leagues_have_as_many_of_all(self):
        source = random.Random(3)
        for players in range(1, 7):
            for league in drawn(players, 12):
                way = list(range(players))
                source.shuffle(way)
                renamed = one_renamed(league, way)
                told = ask(*two_leagues(league, (players, renamed)), ("six_rename", 0, way), ("differ", 0, 1),
                           ("six_alike", 0, renamed), ("alike", 1, 0))
                self.assertEqual(told[5:7], [[renamed], [0]])
                self.assertEqual(self.counts(*league), self.counts(players, renamed))

    def test_all_leagues_that_are_alike(self):
        for players, number in ((3, CIRCLE), (4, FOUR), (4, 9)):
            for way in permutations(range(players)):
                renamed = one_renamed((players, number), way)
                told = ask(*two_leagues((players, number), (players, renamed)), ("alike", 0, 1), ("alike", 1, 0))
                self.assertEqual(sorted(told[5][1:]), list(range(players)))
                self.assertLessEqual(told[5][1:], list(way))
                self.assertEqual(sorted(told[6][1:]), list(range(players)))
                self.assertEqual(self.counts(players, number), self.counts(players, renamed))

    def test_the_whole_tells_the_same_ways_as_six(self):
        for number in range(0, 64, 3):
            for other in range(64):
                told = ask(*two_leagues((4, number), (4, other)), ("alike", 0, 1), ("six_alike", 0, other))
                self.assertEqual(told[5], told[6])
                if told[5] != [-33]:
                    self.assertEqual(one_renamed((4, number), told[5][1:]), other)


def one_renamed(league, way):
    players, won = by_number(*league)
    return number_of(players, [(i, j) for i in range(players) for j in range(i + 1, players) if (way[j], way[i]) in won])


class TablesAlone(unittest.TestCase):
    """d."""

    def test_a_table_alone_tells_threes_and_parts(self):
        told_by_table = {}
        for number in range(1024):
            told = of_league(5, number, ("two_threes", 0), ("one_parts", 0), *[("one_part", 0, i) for i in range(5)])
            table = tuple(table_told(by_number(5, number)))
            self.assertEqual(told_by_table.setdefault(table, told), told)

    def test_a_round_of_three_turned_leaves_them(self):
        for players in (6, 7):
            for league in drawn(players, 30):
                asked = [("two_table", 0), ("two_threes", 0), ("one_parts", 0)]
                asked += [("one_part", 0, i) for i in range(players)]
                many = len(asked)
                told = of_league(*league, *asked, ("two_turnThree", 0, 1), *asked, ("two_turnThree", 0, 0), *asked)
                self.assertEqual(told[many + 1:2 * many + 1], told[:many])
                self.assertEqual(told[2 * many + 2:], told[:many])

    def test_a_table_can_be_just_if_a_league_has_it(self):
        for players, most in ((1, 2), (2, 3), (3, 4), (4, 4)):
            for table in self.tables(players, most):
                told = of_league(players, 0, ("two_can", 0, table), ("two_many", 0, table), ("two_make", 0, table))
                self.assertEqual(told[0] == [1], told[1][0] > 0)
                self.assertEqual(told[0] == [0], told[2] == [-33])

    def tables(self, players, most):
        tables = [[]]
        for step in range(players):
            tables = [table + [wins] for table in tables for wins in range(most + 1)]
        return tables

    def test_there_is_always_an_odd_number_of_rows(self):
        for number in range(64):
            self.assertEqual(of_league(4, number, ("one_rows", 0))[0][0] % 2, 1)


class AsByItself(unittest.TestCase):
    """d."""

    def test_a_stage_answers_among_other_leagues_as_by_itself(self):
        for players, number in ((1, 0), (2, 1), (4, FOUR), (6, 12345), (7, SEVEN)):
            alone = all_told((START, ("league", players), ("one_games", 0, number)), 0, players)
            among = (START, ("league", 2), ("league", 7), ("five_squares", 1, 7), ("league", players),
                     ("four_games", 2, number), ("league", 1), ("six_back", 0))
            self.assertEqual(all_told(among, 2, players), alone)

    def test_taken_back_and_done_again_all_is_as_it_was(self):
        for seed in range(25):
            changes, states = self.drawn_changes(seed)
            look = [("state",)] + [(f"{stage}_state", k) for stage in STAGES for k in range(4)]
            line = [START] + changes
            for step in range(20):
                line += [("undo",), ("state",)] + [("five_state", k) for k in range(4)]
            told = ask(*line)[len(changes) + 1:]
            for step in range(20):
                self.assertEqual(told[6 * step + 2:6 * step + 6], states[-2 - step])
            again = [START] + changes + [("undo",)] * 15 + [("redo",)] * 15
            self.assertEqual(ask(*again, *look)[len(again):], ask(START, *changes, *look)[len(changes) + 1:])

    def drawn_changes(self, seed):
        """Thirty changes none of which is refused, and the leagues behind each."""
        source = random.Random(seed)
        look = [("five_state", k) for k in range(4)]
        changes, states = [], []
        while len(changes) < 30:
            name = source.choice(CHANGES)
            k, i, j = source.randrange(4), source.randrange(4), source.randrange(4)
            given = {"league": (i + 1,), "copy": (k,), "drop": (k,), "joined": (k, i), "into": (k, i), "without": (k, i)}
            of_stages = {"start": (i + 1,), "games": (i,), "turn": (i, j), "turnThree": (0,), "squares": (3,), "back": (),
                         "make": ([1, 1, 1],), "rename": ([1, 2, 0],)}
            call = (name, *given[name]) if "_" not in name else (name, k, *of_stages[name.split("_")[1]])
            told = ask(START, *changes, call, *look)
            if told[len(changes) + 1][0] >= 0:
                changes.append(call)
                states.append(told[-4:])
        return changes, states


class Corners(unittest.TestCase):
    def test_a_league_of_one_behind_and_into_another(self):
        for players, number in ((1, 0), (2, 1), (3, CIRCLE), (4, FOUR), (6, 77)):
            begin = (START, ("league", players), ("one_games", 0, number), ("league", 1))
            for change in (("into", 0, 1), ("into", 1, 0)):
                self.assertEqual(last(*begin, change), [2, players, number])
                self.assertEqual(all_told((*begin, change), 2, players), all_told(begin, 0, players))
            told = ask(*begin, ("joined", 0, 1), ("joined", 1, 0), ("five_bare", 2), ("five_fewest", 3), ("four_most", 0),
                       ("four_most", 2), ("four_most", 3))[6:]
            self.assertEqual(told[:2], [[1, players], [1]])
            self.assertEqual(told[3:], [[told[2][0] + 1]] * 2)

    def test_a_league_into_itself_and_behind_itself(self):
        told = ask(START, ("league", 2), ("six_back", 0), ("into", 0, 0), ("joined", 0, 0), ("six_selves", 1),
                   ("four_order", 1, 15), ("four_order", 2, 15))
        self.assertEqual(told[3:], [[1, 4, 63], [2, 4, number_of(4, [(0, 1), (2, 3)])], [1], [4, 3, 2, 1, 0], [4, 1, 0, 3, 2]])
        told = ask(START, ("league", 3), ("five_squares", 0, 3), ("joined", 0, 0), ("six_selves", 1), ("four_most", 1),
                   ("three_threes", 1), ("one_rows", 1))
        self.assertEqual(told[4:], [[9], [4], [2], [9]])

    def test_one_left_out_of_two(self):
        for i in (0, 1):
            told = ask(START, ("league", 2), ("without", 0, i), ("four_all", 1), ("five_first", 1), ("six_selves", 1),
                       ("three_busiest", 1), ("without", 1, 0))
            self.assertEqual(told[2:], [[1, 1, 0], [2], [1, 0], [1], [0, 0], [-22]])

    def test_leagues_alike_but_for_names(self):
        told = ask(START, ("league", 4), ("one_games", 0, FOUR), ("copy", 0), ("six_rename", 1, [2, 0, 3, 1]),
                   ("alike", 0, 1), ("alike", 1, 0), ("six_least", 0), ("six_least", 1), ("sameTable", 0, 1))
        self.assertEqual(told[5:], [[4, 2, 0, 3, 1], [4, 1, 3, 0, 2], [4], [4], [0]])

    def test_a_league_dropped_that_another_was_made_of_taken_back(self):
        told = ask(START, ("league", 2), ("into", 0, 0), ("drop", 0), ("state",), ("undo",), ("undo",), ("state",),
                   ("redo",), ("redo",), ("one_state", 0))
        self.assertEqual(told[3:], [[2], [1, 3, 0, 4], [2], [1], [1, 1, 2, 2], [1], [0], [4, 0]])

    def test_seven_players_made_of_others(self):
        told = ask(START, ("league", 3), ("one_games", 0, CIRCLE), ("joined", 0, 0), ("league", 1), ("joined", 1, 2),
                   ("one_parts", 3), ("one_rows", 3), ("two_threes", 3), ("two_table", 3), ("four_most", 3),
                   ("five_fewest", 3), ("six_selves", 3))
        self.assertEqual(told[5:], [[3, 7, number_of(7, [(0, 2), (3, 5)])], [3, 0, 3, 3, 3, 6, 1], [9], [2],
                                    [7, 5, 5, 5, 2, 2, 2, 0], [5], [2], [-28]])

    def test_a_change_taken_back_in_another_league(self):
        told = ask(START, ("league", 3), ("one_games", 0, CIRCLE), ("copy", 0), ("two_turnThree", 1, 0),
                   ("one_turn", 0, 0, 1), ("undo",), ("undo",), ("one_state", 0), ("one_state", 1), ("redo",),
                   ("one_state", 0), ("one_state", 1))
        self.assertEqual(told[6:], [[4], [3], [3, CIRCLE], [3, CIRCLE], [1], [3, CIRCLE], [3, 5]])


if __name__ == "__main__":
    unittest.main()
