"""Rounds of three: three of whom the first beat the second, the second the third, the third the first."""

from allplayall.games import turned


def is_three(league, first, second, third):
    return league[first][second] == 1 and league[second][third] == 1 and league[third][first] == 1


def all_threes(league):
    """All rounds of three, each with the least number first, in order."""
    players = len(league)
    found = []
    for first in range(players):
        for second in range(first + 1, players):
            for third in range(first + 1, players):
                if is_three(league, first, second, third):
                    found.append([first, second, third])
    return found


def threes_with(league, player):
    """All rounds of three that the player is in."""
    return [three for three in all_threes(league) if player in three]


def are_all_among(three, members):
    return all([player in members for player in three])


def threes_among(league, members):
    """All rounds of three of these players alone."""
    return [three for three in all_threes(league) if are_all_among(three, members)]


def three_turned(league, three):
    """The league with the three games of that round turned."""
    return turned(league, [(three[0], three[1]), (three[1], three[2]), (three[2], three[0])])
