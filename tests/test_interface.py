"""The interface: how calls are handed in, what is given back, and a line's beginning."""

import contextlib
import io
import unittest

from allplayall.leagues import answers
from tests.helper import GIVEN, GREATEST, LISTS, NUMBERS, STAGES, ask, last, line_of, split


def with_numbers(name, number, told):
    """The call with that number wherever one is given, and that list wherever a list is."""
    return (name, *[told if kind in LISTS else number for kind in GIVEN[name]])


class HandedIn(unittest.TestCase):
    def test_numbers_of_the_calls(self):
        self.assertEqual(answers([0, 1, 3, 105, 0]), [1, 0, 3, 0, 3, 0, 4, 3, 0, 1, 2])

    def test_a_list_stands_behind_its_count(self):
        told = answers([0, 1, 2, 108, 0, 2, 0, 1, 108, 0, 0, 207, 0, 1, 2, 5, 9, 12])
        self.assertEqual(split(told), [[0], [0, 2, 0], [1], [-22], [0, 5, 0], [1, 1, 0, 2]])
        told = answers([0, 1, 2, 315, 0, 0, 315, 0, 3, 1, 0, 1, 610, 0, 0, 610, 0, 2, 1, 0, 617, 0, 610, 0, 1, 0, 12])
        self.assertEqual(split(told), [[0], [0, 2, 0], [0], [0], [-22], [1], [2, 1], [-22], [1, 2, 0, 2]])

    def test_what_is_handed_in_is_not_changed(self):
        line = [0, 1, 3, 108, 0, 3, 2, 1, 0, 206, 0, 3, 2, 1, 0, 208, 0, 3, 2, 1, 0, 310, 0, 3, 2, 1, 0, 4, 0, 0, 10,
                315, 0, 4, 2, 1, 0, 2, 610, 0, 3, 2, 1, 0, 610, 0, 2, 5, 4, 10, 11]
        handed = list(line)
        answers(handed)
        self.assertEqual(handed, line)

    def test_what_is_given_back_is_one_s_own(self):
        line = line_of([("start",), ("league", 3), ("one_row", 0)])
        first = answers(line)
        kept = list(first)
        first.clear()
        self.assertEqual(answers(line), kept)

    def test_nothing_is_kept_from_one_time_to_the_next(self):
        self.assertEqual(answers([0, 1, 7, 1, 6, 1, 5, 1, 4]), [1, 0, 3, 0, 7, 0, 3, 1, 6, 0, 3, 2, 5, 0, 3, 3, 4, 0])
        self.assertEqual(answers([12]), [1, -11])
        self.assertEqual(answers([0, 12]), [1, 0, 3, 0, 0, 0])
        self.assertEqual(answers([0, 10]), [1, 0, 1, -6])

    def test_nothing_is_printed(self):
        said = io.StringIO()
        with contextlib.redirect_stdout(said), contextlib.redirect_stderr(said):
            answers([0, 1, 3, 105, 0, 12])
        self.assertEqual(said.getvalue(), "")

    def test_all_calls_of_a_stage_have_their_numbers(self):
        for first, names in STAGES.values():
            self.assertEqual(len(names), len(set(names)))
        self.assertEqual(NUMBERS["state"], 12)
        self.assertEqual(NUMBERS["one_state"], 117)
        self.assertEqual(NUMBERS["two_state"], 217)
        self.assertEqual(NUMBERS["three_byWins"], 310)
        self.assertEqual(NUMBERS["three_state"], 317)
        self.assertEqual(NUMBERS["four_state"], 416)
        self.assertEqual(NUMBERS["five_state"], 517)
        self.assertEqual(NUMBERS["six_state"], 617)


class Beginning(unittest.TestCase):
    def test_before_a_start_every_other_call_is_refused(self):
        for name in NUMBERS:
            for number, told in ((0, []), (1, [0]), (GREATEST, [GREATEST] * 60)):
                with self.subTest(name=name, number=number):
                    expected = [0] if name == "start" else [-11]
                    self.assertEqual(ask(with_numbers(name, number, told)), [expected])

    def test_before_a_start_nothing_is_changed(self):
        told = ask(("league", 3), ("undo",), ("redo",), ("start",), ("state",), ("undo",), ("redo",))
        self.assertEqual(told, [[-11], [-11], [-11], [0], [0, 0, 0], [-6], [-6]])

    def test_a_stage_s_start_is_no_start_of_the_whole(self):
        self.assertEqual(ask(("one_start", 0, 3), ("state",)), [[-11], [-11]])

    def test_a_line_of_one_call(self):
        self.assertEqual(answers([0]), [1, 0])
        self.assertEqual(answers([11]), [1, -11])

    def test_lines_of_200_calls(self):
        self.assertEqual(ask(*[("start",)] * 200), [[0]] * 200)
        told = ask(("start",), ("league", 7), *[("one_turn", 0, 0, 6)] * 197, ("state",))
        self.assertEqual(len(told), 200)
        self.assertEqual(told[2:199], [[6], [0]] * 98 + [[6]])
        self.assertEqual(told[199], [1, 20, 0, 7])

    def test_200_calls_with_the_longest_lists(self):
        for name, refusal in (("three_byWins", -22), ("three_within", -2), ("six_rename", -22), ("two_make", -22)):
            call = (name, 0, [30] * 60)
            self.assertEqual(ask(("start",), ("league", 1), *[call] * 198)[2:], [[refusal]] * 198)

    def test_a_line_with_every_call(self):
        calls = [with_numbers(name, 0, [0]) for name in NUMBERS if name not in ("start", "drop", "undo")]
        line = [("start",), ("league", 1)] + calls + [("undo",), ("drop", 0)]
        told = ask(*line)
        refused = {call[0]: answer for call, answer in zip(line, told) if answer[0] < 0}
        self.assertEqual(sorted(set(NUMBERS) - set(call[0] for call in line)), [])
        # A league of 0 players, one left out of one, two who are one, a round of 0; no round of three; nothing to redo.
        expected = {name: [-22] for name in NUMBERS if name.split("_")[-1] in
                    ("start", "league", "turn", "rounds", "round", "between", "through", "would", "without", "squares")}
        expected.pop("start")
        expected.update({"two_three": [-33], "two_turnThree": [-33], "three_nth": [-33], "redo": [-6]})
        self.assertEqual(refused, expected)

    def test_a_start_in_the_middle_of_a_line(self):
        told = ask(("start",), ("league", 3), ("league", 2), ("undo",), ("start",), ("state",), ("undo",), ("redo",),
                   ("one_state", 0), ("league", 5), ("state",), ("undo",), ("undo",))
        self.assertEqual(told[4:], [[0], [0, 0, 0], [-6], [-6], [-2], [0, 5, 0], [1, 1, 0, 5], [0], [-6]])


class NoSuchLeague(unittest.TestCase):
    def test_a_stage_s_call_looks_at_the_league_first(self):
        stage_calls = [name for name in NUMBERS if "_" in name]
        self.assertEqual(len(stage_calls), 18 + 18 + 18 + 17 + 18 + 18)
        for name in stage_calls:
            for number, told in ((2, []), (2, [0]), (9, [9] * 60), (GREATEST, [GREATEST] * 60)):
                with self.subTest(name=name, number=number):
                    line = (("start",), ("league", 3), ("league", 4), with_numbers(name, number, told), ("state",))
                    self.assertEqual(ask(*line)[3:], [[-2], [2, 2, 0, 3, 4]])

    def test_of_no_leagues_every_call_of_a_stage_is_refused(self):
        for name in NUMBERS:
            if "_" in name:
                self.assertEqual(last(("start",), with_numbers(name, 0, [0])), [-2], name)

    def test_the_whole_s_own_calls_look_at_the_leagues_first(self):
        for name in ("copy", "drop"):
            self.assertEqual(last(("start",), ("league", 3), (name, 1)), [-2])
            self.assertEqual(last(("start",), ("league", 3), (name, GREATEST)), [-2])
        for name in ("joined", "into", "sameTable", "alike", "differ"):
            for j, k in ((0, 1), (1, 0), (1, 1), (0, GREATEST), (GREATEST, 0)):
                self.assertEqual(last(("start",), ("league", 7), (name, j, k)), [-2], (name, j, k))
        self.assertEqual(last(("start",), ("league", 1), ("without", 1, 0)), [-2])
        self.assertEqual(last(("start",), ("league", 1), ("without", GREATEST, GREATEST)), [-2])


class SixOfSeven(unittest.TestCase):
    def test_six_is_refused_of_seven_players_ahead_of_all_but_the_league(self):
        six = [name for name in NUMBERS if name.startswith("six_")]
        self.assertEqual(len(six), 18)
        for name in six:
            for number, told in ((0, [0]), (0, []), (0, [6, 5, 4, 3, 2, 1, 0]), (GREATEST, [GREATEST] * 60)):
                with self.subTest(name=name, number=number, told=told):
                    call = (name, 1) + with_numbers(name, number, told)[2:]
                    line = (("start",), ("league", 2), ("league", 7), call, ("state",), ("one_state", 1))
                    self.assertEqual(ask(*line)[3:], [[-28], [2, 2, 0, 2, 7], [7, 0]])
                    self.assertEqual(last(("start",), ("league", 7), call), [-2])

    def test_six_is_not_refused_of_six_players(self):
        for name in NUMBERS:
            if name.startswith("six_") and name != "six_classes":
                told = last(("start",), ("league", 6), with_numbers(name, 0, [5, 4, 3, 2, 1, 0]))
                self.assertNotEqual(told, [-28], name)

    def test_other_stages_are_not_refused_of_seven_players(self):
        for name in NUMBERS:
            if "_" in name and not name.startswith("six_") and name != "two_turns":
                told = last(("start",), ("league", 7), with_numbers(name, 0, [6, 5, 4, 3, 2, 1, 0]))
                self.assertNotEqual(told, [-28], name)

    def test_behind_a_start_with_six_players_it_is_answered_again(self):
        told = ask(("start",), ("league", 7), ("six_selves", 0), ("five_start", 0, 6), ("six_selves", 0),
                   ("undo",), ("six_selves", 0), ("five_squares", 0, 7), ("six_back", 0), ("five_squares", 0, 3),
                   ("six_selves", 0))
        self.assertEqual(told[2:5], [[-28], [0], [1]])
        self.assertEqual(told[6], [-28])
        self.assertEqual(told[8], [-28])
        self.assertEqual(told[10], [3])


class GreatestNumbers(unittest.TestCase):
    def test_the_greatest_number_everywhere_but_as_the_league(self):
        expected = {"start": -22, "games": -22, "turn": -2, "beats": -2, "wins": -2, "nth": -33, "isRow": -22,
                    "comes": -2, "part": -2, "rounds": -2, "round": -2, "begins": -2, "between": -2, "can": 0,
                    "beyond": -22, "make": -33, "many": 0, "three": -33, "turnThree": -33, "differ": -22,
                    "turns": -22, "same": -22, "rank": -2, "of": -2, "through": -2, "would": -2, "byWins": -22,
                    "most": -22, "within": -2, "inOrder": -22, "order": -22, "four_many": 0, "among": -2, "adds": -22,
                    "sure": -22, "covers": -22, "left": -22, "over": -22, "any": 1, "squares": -22, "needs": -22,
                    "six_order": -33, "alikeTo": -2, "six_same": -2, "rename": -22, "alike": -22}
        for name in NUMBERS:
            if "_" in name and len(GIVEN[name]) > 1:
                call = with_numbers(name, GREATEST, [GREATEST])
                told = last(("start",), ("league", 1), (name, 0) + call[2:])
                self.assertEqual(told, [expected.get(name, expected.get(name.split("_")[1]))], name)
        self.assertEqual(last(("start",), ("league", GREATEST)), [-22])


if __name__ == "__main__":
    unittest.main()
