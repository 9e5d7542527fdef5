"""Leagues made of other leagues."""

from allplayall.games import settled


def one_behind(first, second):
    """The players of the first, then those of the second, each of whom all of the first beat."""
    won = []
    for row in first:
        won.append(list(row) + [1] * len(second))
    for row in second:
        won.append([0] * len(first) + list(row))
    return settled(won)


def won_within(first, second, one, other):
    """Whether one beat the other where the second league stands in each player of the first."""
    size = len(second)
    if one // size != other // size:
        return first[one // size][other // size]
    return second[one % size][other % size]


def one_into(first, second):
    """For each player of the first all players of the second."""
    players = len(first) * len(second)
    won = []
    for one in range(players):
        won.append([won_within(first, second, one, other) for other in range(players)])
    return settled(won)


def one_left_out(league, player):
    """All others, with their games."""
    others = [i for i in range(len(league)) if i != player]
    won = []
    for i in others:
        won.append([league[i][j] for j in others])
    return settled(won)
