"""The calls that each stage has: start, games, turn, beats, wins, state.

A change gives back the league as it is then, and the answer; a refused one the league as it was.
"""

from allplayall.games import MOST_PLAYERS, are_players, games_number, how_many_games, is_games_number, is_player
from allplayall.games import league_with, turned
from allplayall.refusals import NO_SUCH, NOT_FIT


def started_anew(league, players, most):
    if players < 1 or players > most:
        return (league, [NOT_FIT])
    return (league_with(players, 0), [0])


def start(league, players):
    return started_anew(league, players, MOST_PLAYERS)


def games(league, number):
    players = len(league)
    if not is_games_number(players, number):
        return (league, [NOT_FIT])
    return (league_with(players, number), [how_many_games(players)])


def turn(league, one, other):
    if not are_players(league, one, other):
        return (league, [NO_SUCH])
    if one == other:
        return (league, [NOT_FIT])
    # Who lost the game until now has won it then.
    winner = other if league[one][other] == 1 else one
    return (turned(league, [(one, other)]), [winner])


def beats(league, one, other):
    if not are_players(league, one, other):
        return [NO_SUCH]
    return [league[one][other]]


def wins(league, player):
    if not is_player(league, player):
        return [NO_SUCH]
    return [sum(league[player])]


def state(league):
    return [len(league), games_number(league)]


# By a call's number within its stage.
CHANGES_OF_EACH = {0: start, 1: games, 2: turn}
QUESTIONS_OF_EACH = {3: beats, 4: wins}
# A stage's state stands behind its other calls, so it has not the same number in each.
STATES = {117: state, 217: state, 317: state, 416: state, 517: state, 617: state}
