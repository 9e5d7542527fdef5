"""The interface: how calls are handed in, what is given back, and a line's beginning."""

import contextlib
import io
import unittest

from allplayall.leagues import answers
from tests.helper import GIVEN, GREATEST, NUMBERS, STAGES, ask, last, line_of, split


def with_numbers(name, number, told):
    """The call with that number wherever one is given, and that list wherever a list is."""
    return (name, *[told if kind in "RW" else number for kind in GIVEN[name]])


class HandedIn(unittest.TestCase):
    def test_numbers_of_the_calls(self):
        self.assertEqual(answers([0, 1, 3, 105, 0]), [1, 0, 3, 0, 3, 0, 4, 3, 0, 1, 2])

    def test_a_list_stands_behind_its_count(self):
        told = answers([0, 1, 2, 108, 0, 2, 0, 1, 108, 0, 0, 207, 0, 1, 2, 5, 9, 12])
        self.assertEqual(split(told), [[0], [0, 2, 0], [1], [-22], [0, 5, 0], [1, 1, 0, 2]])

    def test_what_is_handed_in_is_not_changed(self):
        line = [0, 1, 3, 108, 0, 3, 2, 1, 0, 206, 0, 3, 2, 1, 0, 208, 0, 3, 2, 1, 0, 310, 0, 3, 2, 1, 0, 4, 0, 0, 10]
        handed = list(line)
        answers(handed)
        self.assertEqual(handed, line)

    def test_what_is_given_back_is_one_s_own(self):
        line = line_of([("start",), ("league", 3), ("one_row", 0)])
        first = answers(line)
        kept = list(first)
        first.clear()
        self.assertEqual(answers(line), kept)

    def test_nothing_is_kept_from_one_time_to_the_next(self):
        self.assertEqual(answers([0, 1, 7, 1, 6, 1, 5, 1, 4]), [1, 0, 3, 0, 7, 0, 3, 1, 6, 0, 3, 2, 5, 0, 3, 3, 4, 0])
        self.assertEqual(answers([12]), [1, -11])
        self.assertEqual(answers([0, 12]), [1, 0, 3, 0, 0, 0])
        self.assertEqual(answers([0, 10]), [1, 0, 1, -6])

    def test_nothing_is_printed(self):
        said = io.StringIO()
        with contextlib.redirect_stdout(said), contextlib.redirect_stderr(said):
            answers([0, 1, 3, 105, 0, 12])
        self.assertEqual(said.getvalue(), "")

    def test_all_calls_of_a_stage_have_their_numbers(self):
        for first, names in STAGES.values():
            self.assertEqual(len(names), len(set(names)))
        self.assertEqual(NUMBERS["state"], 12)
        self.assertEqual(NUMBERS["one_state"], 117)
        self.assertEqual(NUMBERS["two_state"], 217)
        self.assertEqual(NUMBERS["three_byWins"], 310)


class Beginning(unittest.TestCase):
    def test_before_a_start_every_other_call_is_refused(self):
        for name in NUMBERS:
            for number, told in ((0, []), (1, [0]), (GREATEST, [GREATEST] * 60)):
                with self.subTest(name=name, number=number):
                    expected = [0] if name == "start" else [-11]
                    self.assertEqual(ask(with_numbers(name, number, told)), [expected])

    def test_before_a_start_nothing_is_changed(self):
        told = ask(("league", 3), ("undo",), ("redo",), ("start",), ("state",), ("undo",), ("redo",))
        self.assertEqual(told, [[-11], [-11], [-11], [0], [0, 0, 0], [-6], [-6]])

    def test_a_stage_s_start_is_no_start_of_the_whole(self):
        self.assertEqual(ask(("one_start", 0, 3), ("state",)), [[-11], [-11]])

    def test_a_line_of_one_call(self):
        self.assertEqual(answers([0]), [1, 0])
        self.assertEqual(answers([11]), [1, -11])

    def test_lines_of_200_calls(self):
        self.assertEqual(ask(*[("start",)] * 200), [[0]] * 200)
        told = ask(("start",), ("league", 7), *[("one_turn", 0, 0, 6)] * 197, ("state",))
        self.assertEqual(len(told), 200)
        self.assertEqual(told[2:199], [[6], [0]] * 98 + [[6]])
        self.assertEqual(told[199], [1, 20, 0, 7])

    def test_200_calls_with_the_longest_lists(self):
        call = ("three_byWins", 0, [30] * 60)
        self.assertEqual(ask(("start",), ("league", 1), *[call] * 198)[2:], [[-22]] * 198)

    def test_a_start_in_the_middle_of_a_line(self):
        told = ask(("start",), ("league", 3), ("league", 2), ("undo",), ("start",), ("state",), ("undo",), ("redo",),
                   ("one_state", 0), ("league", 5), ("state",), ("undo",), ("undo",))
        self.assertEqual(told[4:], [[0], [0, 0, 0], [-6], [-6], [-2], [0, 5, 0], [1, 1, 0, 5], [0], [-6]])


class NoSuchLeague(unittest.TestCase):
    def test_a_stage_s_call_looks_at_the_league_first(self):
        stage_calls = [name for name in NUMBERS if "_" in name]
        self.assertEqual(len(stage_calls), 18 + 18 + 11)
        for name in stage_calls:
            for number, told in ((2, []), (2, [0]), (9, [9] * 60), (GREATEST, [GREATEST] * 60)):
                with self.subTest(name=name, number=number):
                    line = (("start",), ("league", 3), ("league", 4), with_numbers(name, number, told), ("state",))
                    self.assertEqual(ask(*line)[3:], [[-2], [2, 2, 0, 3, 4]])

    def test_of_no_leagues_every_call_of_a_stage_is_refused(self):
        for name in NUMBERS:
            if "_" in name:
                self.assertEqual(last(("start",), with_numbers(name, 0, [0])), [-2], name)

    def test_the_whole_s_own_calls_look_at_the_leagues_first(self):
        for name in ("copy", "drop"):
            self.assertEqual(last(("start",), ("league", 3), (name, 1)), [-2])
            self.assertEqual(last(("start",), ("league", 3), (name, GREATEST)), [-2])
        for name in ("joined", "into", "sameTable", "alike", "differ"):
            for j, k in ((0, 1), (1, 0), (1, 1), (0, GREATEST), (GREATEST, 0)):
                self.assertEqual(last(("start",), ("league", 7), (name, j, k)), [-2], (name, j, k))
        self.assertEqual(last(("start",), ("league", 1), ("without", 1, 0)), [-2])
        self.assertEqual(last(("start",), ("league", 1), ("without", GREATEST, GREATEST)), [-2])


class GreatestNumbers(unittest.TestCase):
    def test_the_greatest_number_everywhere_but_as_the_league(self):
        expected = {"start": -22, "games": -22, "turn": -2, "beats": -2, "wins": -2, "nth": -33, "isRow": -22,
                    "comes": -2, "part": -2, "rounds": -2, "round": -2, "begins": -2, "between": -2, "can": 0,
                    "beyond": -22, "make": -33, "many": 0, "three": -33, "turnThree": -33, "differ": -22,
                    "turns": -22, "same": -22, "rank": -2, "of": -2, "through": -2, "would": -2, "byWins": -22}
        for name in NUMBERS:
            if "_" in name and len(GIVEN[name]) > 1:
                call = with_numbers(name, GREATEST, [GREATEST])
                told = last(("start",), ("league", 1), (name, 0) + call[2:])
                self.assertEqual(told, [expected[name.split("_")[1]]], name)
        self.assertEqual(last(("start",), ("league", GREATEST)), [-22])


if __name__ == "__main__":
    unittest.main()
