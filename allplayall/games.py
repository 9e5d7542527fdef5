"""A league: who of its players beat whom.

A league is a tuple with a tuple for each player: league[i][j] is 1 if i beat j, else 0.
It is never changed; what changes a league makes another one, so that those of before can be kept as they were.
"""

from allplayall.powers import two_to_the

MOST_PLAYERS = 7


def games_of(players):
    """All games as their two players, the lesser first, in the order in which the games' number counts them."""
    games = []
    for i in range(players):
        for j in range(i + 1, players):
            games.append((i, j))
    return games


def how_many_games(players):
    return players * (players - 1) // 2


def is_games_number(players, number):
    return number < two_to_the(how_many_games(players))


def settled(won):
    """The league of a list of lists that tell who beat whom."""
    return tuple([tuple(row) for row in won])


def league_with(players, number):
    """The league of so many players that has that games' number."""
    won = [[0] * players for i in range(players)]
    rest = number
    for i, j in games_of(players):
        if rest % 2 == 1:
            won[j][i] = 1
        else:
            won[i][j] = 1
        rest = rest // 2
    return settled(won)


def games_number(league):
    number = 0
    counts = 1
    for i, j in games_of(len(league)):
        if league[j][i] == 1:
            number += counts
        counts = counts * 2
    return number


def table_of(league):
    """How many games each player won."""
    return [sum(row) for row in league]


def is_player(league, player):
    return player < len(league)


def are_players(league, one, other):
    return is_player(league, one) and is_player(league, other)


def first_with_most(players, counts):
    """The first of the players with the greatest of the counts, of which there is one for each."""
    return players[counts.index(max(counts))]


def turned(league, games):
    """The league with these games turned."""
    won = [list(row) for row in league]
    for i, j in games:
        won[i][j] = league[j][i]
        won[j][i] = league[i][j]
    return settled(won)


def games_that_differ(league, other):
    """How many games differ between two leagues of as many players."""
    many = 0
    for i, j in games_of(len(league)):
        if league[i][j] != other[i][j]:
            many += 1
    return many
