"""Ways: players renamed. A way is a list that tells for each player one, each once."""


def goes_on(league, goal, way, player):
    """Whether the way, with that player told next, still gives each game as the goal has it."""
    if player in way:
        return False
    new = len(way)
    for i, told in enumerate(way):
        if goal[i][new] != league[told][player]:
            return False
    return True


def longer_ways(league, goal, ways):
    longer = []
    for way in ways:
        for player in range(len(league)):
            if goes_on(league, goal, way, player):
                longer.append(way + [player])
    return longer


def ways_to(league, goal):
    """All ways by which the league, renamed, is the goal, a league of as many players.

    They come in order: each step keeps it, as all are equally long and grow by the lesser number first.
    """
    ways = [[]]
    for step in range(len(league)):
        ways = longer_ways(league, goal, ways)
    return ways
