"""The whole: leagues side by side, the calls on them, and changes taken back and done again."""

from allplayall.games import MOST_PLAYERS, games_number, games_that_differ, is_player, league_with, table_of
from allplayall.making import one_behind, one_into, one_left_out
from allplayall.refusals import NO_CHANGE, NO_SUCH, NOT_FIT, NOT_FOUND, TOO_MANY
from allplayall.ways import MOST_RENAMED, first_way

MOST_LEAGUES = 4
MOST_CHANGES = 20


class Whole:
    """The leagues as they are, as they were before each change, and as they were before each one taken back.

    A list of leagues is never changed once it is here, so one of before is kept by itself.
    """

    def __init__(self):
        self.started = False
        self.leagues = []
        self.earlier = []
        self.later = []

    def begin(self):
        self.started = True
        self.leagues = []
        self.earlier = []
        self.later = []

    def change(self, leagues):
        self.earlier = (self.earlier + [self.leagues])[-MOST_CHANGES:]
        self.later = []
        self.leagues = leagues

    def take_back(self):
        self.later.append(self.leagues)
        self.leagues = self.earlier.pop()

    def do_again(self):
        self.earlier.append(self.leagues)
        self.leagues = self.later.pop()


def is_league(whole, k):
    return k < len(whole.leagues)


def are_leagues(whole, j, k):
    return is_league(whole, j) and is_league(whole, k)


def as_many_players(whole, j, k):
    return len(whole.leagues[j]) == len(whole.leagues[k])


def one_more(whole, league):
    if len(whole.leagues) == MOST_LEAGUES:
        return [TOO_MANY]
    whole.change(whole.leagues + [league])
    return [len(whole.leagues) - 1, len(league), games_number(league)]


def league_of(whole, players):
    if players < 1 or players > MOST_PLAYERS:
        return [NOT_FIT]
    return one_more(whole, league_with(players, 0))


def copy_of(whole, k):
    if not is_league(whole, k):
        return [NO_SUCH]
    return one_more(whole, whole.leagues[k])


def drop(whole, k):
    if not is_league(whole, k):
        return [NO_SUCH]
    players = len(whole.leagues[k])
    whole.change(whole.leagues[:k] + whole.leagues[k + 1:])
    return [players]


def joined(whole, j, k):
    if not are_leagues(whole, j, k):
        return [NO_SUCH]
    if len(whole.leagues[j]) + len(whole.leagues[k]) > MOST_PLAYERS:
        return [NOT_FIT]
    return one_more(whole, one_behind(whole.leagues[j], whole.leagues[k]))


def into(whole, j, k):
    if not are_leagues(whole, j, k):
        return [NO_SUCH]
    if len(whole.leagues[j]) * len(whole.leagues[k]) > MOST_PLAYERS:
        return [NOT_FIT]
    return one_more(whole, one_into(whole.leagues[j], whole.leagues[k]))


def without(whole, k, player):
    if not is_league(whole, k) or not is_player(whole.leagues[k], player):
        return [NO_SUCH]
    if len(whole.leagues[k]) == 1:
        return [NOT_FIT]
    return one_more(whole, one_left_out(whole.leagues[k], player))


def same_table(whole, j, k):
    if not are_leagues(whole, j, k):
        return [NO_SUCH]
    if not as_many_players(whole, j, k):
        return [NOT_FIT]
    return [1 if table_of(whole.leagues[j]) == table_of(whole.leagues[k]) else 0]


def alike(whole, j, k):
    if not are_leagues(whole, j, k):
        return [NO_SUCH]
    if not as_many_players(whole, j, k) or len(whole.leagues[j]) > MOST_RENAMED:
        return [NOT_FIT]
    way = first_way(whole.leagues[j], whole.leagues[k])
    if way is None:
        return [NOT_FOUND]
    return [len(way)] + way


def differ(whole, j, k):
    if not are_leagues(whole, j, k):
        return [NO_SUCH]
    if not as_many_players(whole, j, k):
        return [NOT_FIT]
    return [games_that_differ(whole.leagues[j], whole.leagues[k])]


def undo(whole):
    if len(whole.earlier) == 0:
        return [NO_CHANGE]
    whole.take_back()
    return [len(whole.earlier)]


def redo(whole):
    if len(whole.later) == 0:
        return [NO_CHANGE]
    whole.do_again()
    return [len(whole.later)]


def state(whole):
    players = [len(league) for league in whole.leagues]
    return [len(whole.leagues), len(whole.earlier), len(whole.later)] + players


CALLS_OF_WHOLE = {
    1: league_of,
    2: copy_of,
    3: drop,
    4: joined,
    5: into,
    6: without,
    7: same_table,
    8: alike,
    9: differ,
    10: undo,
    11: redo,
    12: state,
}
