"""Three: rounds of three."""

from allplayall.games import are_players, first_with_most, how_many_games, is_player, table_of, turned
from allplayall.player_sets import all_sets
from allplayall.refusals import NO_SUCH, NOT_FIT, NOT_FOUND
from allplayall.threes import all_threes, threes_among, threes_with

# By wins is told of at most so many players, none of whom won more than so many.
MOST_BY_WINS = 30
# Of more players it is not told how many rounds there can be.
MOST_ASKED = 1000


def threes(league):
    return [len(all_threes(league))]


def nth(league, k):
    found = all_threes(league)
    if k >= len(found):
        return [NOT_FOUND]
    return [3] + found[k]


def of(league, player):
    if not is_player(league, player):
        return [NO_SUCH]
    return [len(threes_with(league, player))]


def through(league, one, other):
    if not are_players(league, one, other):
        return [NO_SUCH]
    if one == other:
        return [NOT_FIT]
    return [len([three for three in all_threes(league) if one in three and other in three])]


def would(league, one, other):
    if not are_players(league, one, other):
        return [NO_SUCH]
    if one == other:
        return [NOT_FIT]
    return [len(all_threes(turned(league, [(one, other)])))]


def how_many_threes(players):
    return players * (players - 1) * (players - 2) // 6


def by_wins(league, told):
    if len(told) < 1 or len(told) > MOST_BY_WINS or max(told) > MOST_BY_WINS:
        return [NOT_FIT]
    # There are as many twos of players as games among them.
    found = how_many_threes(len(told)) - sum([how_many_games(beaten) for beaten in told])
    if found < 0:
        return [NOT_FOUND]
    return [found]


def most(league, players):
    if players > MOST_ASKED:
        return [NOT_FIT]
    less = players if players % 2 == 1 else 4 * players
    return [(players * players * players - less) // 24]


def level(league):
    table = table_of(league)
    return [1 if max(table) - min(table) <= 1 else 0]


def calm(league):
    found = [player for player in range(len(league)) if len(threes_with(league, player)) == 0]
    return [len(found)] + found


def fours(league):
    # Among four there are two rounds of three at most.
    counts = [0, 0, 0]
    for members in all_sets(len(league)):
        if len(members) == 4:
            counts[len(threes_among(league, members))] += 1
    return [sum(counts)] + counts


def within(league, told):
    if not all([is_player(league, player) for player in told]):
        return [NO_SUCH]
    return [len(threes_among(league, told))]


def busiest(league):
    players = list(range(len(league)))
    counts = [len(threes_with(league, player)) for player in players]
    return [first_with_most(players, counts), max(counts)]


QUESTIONS_OF_THREE = {
    305: threes,
    306: nth,
    307: of,
    308: through,
    309: would,
    310: by_wins,
    311: most,
    312: level,
    313: calm,
    314: fours,
    315: within,
    316: busiest,
}
