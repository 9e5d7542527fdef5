"""Tables: how many games each player won; which leagues have one; leagues turned into one another."""

from allplayall.games import games_of, how_many_games
from allplayall.threes import all_threes, three_turned


def beyond_of(table, k):
    """What the k with the fewest wins won together, less the games they play among themselves."""
    return sum(sorted(table)[:k]) - how_many_games(k)


def can_be(table):
    for k in range(len(table)):
        if beyond_of(table, k) < 0:
            return False
    return beyond_of(table, len(table)) == 0


def with_one_more(table, player):
    return [wins + 1 if i == player else wins for i, wins in enumerate(table)]


def all_tables(players):
    """The tables of all leagues of so many players: the one at k is that of the games' number k."""
    tables = [[0] * players]
    for lesser, greater in games_of(players):
        # The numbers in which this game counts come behind all those in which it does not.
        without = [with_one_more(table, lesser) for table in tables]
        counted = [with_one_more(table, greater) for table in tables]
        tables = without + counted
    return tables


def new_by_one_turn(leagues, seen):
    """The leagues, not seen till now, that come of these by one round of three turned; they are seen then."""
    new = []
    for league in leagues:
        for three in all_threes(league):
            other = three_turned(league, three)
            if other not in seen:
                seen[other] = True
                new.append(other)
    return new


def fewest_turns(league, goal):
    """By how few rounds of three turned the league becomes the goal; None if never."""
    seen = {league: True}
    reached = [league]
    turns = 0
    while len(reached) > 0:
        if goal in reached:
            return turns
        reached = new_by_one_turn(reached, seen)
        turns += 1
    return None
