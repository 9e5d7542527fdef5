"""Leagues by squares."""

from allplayall.games import games_of, league_with, turned


def is_rest_of_square(number, players):
    """Whether the number, below how many players there are, is the rest of a square by that."""
    return number in [root * root % players for root in range(players)]


def league_by_squares(players):
    """Of two the lesser number won if the greater less the lesser is the rest of a square, else the greater."""
    others = [game for game in games_of(players) if not is_rest_of_square(game[1] - game[0], players)]
    return turned(league_with(players, 0), others)
