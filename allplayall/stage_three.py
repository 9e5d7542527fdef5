"""Three: rounds of three."""

from allplayall.games import are_players, how_many_games, is_player, turned
from allplayall.refusals import NO_SUCH, NOT_FIT, NOT_FOUND
from allplayall.threes import all_threes

# By wins is told of at most so many players, none of whom won more than so many.
MOST_BY_WINS = 30


def threes(league):
    return [len(all_threes(league))]


def nth(league, k):
    found = all_threes(league)
    if k >= len(found):
        return [NOT_FOUND]
    return [3] + found[k]


def of(league, player):
    if not is_player(league, player):
        return [NO_SUCH]
    return [len([three for three in all_threes(league) if player in three])]


def through(league, one, other):
    if not are_players(league, one, other):
        return [NO_SUCH]
    if one == other:
        return [NOT_FIT]
    return [len([three for three in all_threes(league) if one in three and other in three])]


def would(league, one, other):
    if not are_players(league, one, other):
        return [NO_SUCH]
    if one == other:
        return [NOT_FIT]
    return [len(all_threes(turned(league, [(one, other)])))]


def how_many_threes(players):
    return players * (players - 1) * (players - 2) // 6


def by_wins(league, told):
    if len(told) < 1 or len(told) > MOST_BY_WINS or max(told) > MOST_BY_WINS:
        return [NOT_FIT]
    # There are as many twos of players as games among them.
    found = how_many_threes(len(told)) - sum([how_many_games(beaten) for beaten in told])
    if found < 0:
        return [NOT_FOUND]
    return [found]


QUESTIONS_OF_THREE = {305: threes, 306: nth, 307: of, 308: through, 309: would, 310: by_wins}
