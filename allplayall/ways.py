"""Ways: players renamed. A way is a list that tells for each player one, each once."""

from allplayall.games import games_number, how_many_games, league_with, settled
from allplayall.powers import two_to_the

# Of more players no ways are told.
MOST_RENAMED = 6


def goes_on(league, goal, way, player):
    """Whether the way, with that player told next, still gives each game as the goal has it."""
    if player in way:
        return False
    new = len(way)
    for i, told in enumerate(way):
        if goal[i][new] != league[told][player]:
            return False
    return True


def longer_ways(league, goal, ways):
    longer = []
    for way in ways:
        for player in range(len(league)):
            if goes_on(league, goal, way, player):
                longer.append(way + [player])
    return longer


def ways_to(league, goal):
    """All ways by which the league, renamed, is the goal, a league of as many players.

    They come in order: each step keeps it, as all are equally long and grow by the lesser number first.
    """
    ways = [[]]
    for step in range(len(league)):
        ways = longer_ways(league, goal, ways)
    return ways


def first_way(league, goal):
    """The first way by which the league, renamed, is the goal; None if there is none."""
    ways = ways_to(league, goal)
    if len(ways) == 0:
        return None
    return ways[0]


def ways_into_itself(league):
    return ways_to(league, league)


def is_way(league, told):
    return sorted(told) == list(range(len(league)))


def all_ways(players):
    ways = [[]]
    for step in range(players):
        longer = []
        for way in ways:
            longer.extend([way + [player] for player in range(players) if player not in way])
        ways = longer
    return ways


def renamed(league, way):
    """The league in which player i has the games of the one that the way tells for i."""
    won = []
    for told in way:
        won.append([league[told][other] for other in way])
    return settled(won)


def renamed_numbers(league):
    """The games' numbers of the league renamed by each of all ways."""
    return [games_number(renamed(league, way)) for way in all_ways(len(league))]


def how_often_done(way):
    """How often a way is done till each is told for oneself."""
    done = way
    times = 1
    while done != list(range(len(way))):
        done = [way[told] for told in done]
        times += 1
    return times


def told_for(league, player):
    """All who are told for that player by ways into itself, rising."""
    return sorted(set([way[player] for way in ways_into_itself(league)]))


def how_many_unlike(players):
    """How many leagues of so many players there are no two of which are alike."""
    seen = {}
    unlike = 0
    for number in range(two_to_the(how_many_games(players))):
        if number not in seen:
            unlike += 1
            for other in renamed_numbers(league_with(players, number)):
                seen[other] = True
    return unlike
