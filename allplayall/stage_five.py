"""Five: fewest who beat all others."""

from allplayall.covers import fewest_enough, is_over_any, left_by, over_these, taken_one_by_one
from allplayall.games import games_number
from allplayall.player_sets import is_set, players_of, set_number
from allplayall.powers import two_to_the
from allplayall.refusals import NOT_FIT
from allplayall.squares import league_by_squares

# By squares are leagues of so many players.
BY_SQUARES = (3, 7)
# How many players are needed is told up to here.
MOST_NEEDED = 20


def squares(league, players):
    if players not in BY_SQUARES:
        return (league, [NOT_FIT])
    changed = league_by_squares(players)
    return (changed, [games_number(changed)])


def covers(league, told):
    if not is_set(league, told):
        return [NOT_FIT]
    return [1 if len(left_by(league, players_of(told))) == 0 else 0]


def left(league, told):
    if not is_set(league, told):
        return [NOT_FIT]
    found = left_by(league, players_of(told))
    return [len(found)] + found


def fewest(league):
    return [len(fewest_enough(league)[0])]


def first(league):
    members = fewest_enough(league)[0]
    return [set_number(members)] + members


def many(league):
    return [len(fewest_enough(league))]


def greedy(league):
    taken = taken_one_by_one(league)
    return [len(taken)] + taken


def over(league, told):
    if not is_set(league, told):
        return [NOT_FIT]
    found = over_these(league, players_of(told))
    return [len(found)] + found


def over_any(league, size):
    return [1 if is_over_any(league, size) else 0]


def deep(league):
    size = 0
    # Nobody is over all players, so this ends below how many there are.
    while is_over_any(league, size + 1):
        size += 1
    return [size]


def needs(league, power):
    if power > MOST_NEEDED:
        return [NOT_FIT]
    return [sum([two_to_the(step) for step in range(power + 1)])]


def bare(league):
    found = [player for player in range(len(league)) if sum(league[player]) == 0]
    return [len(found)] + found


CHANGES_OF_FIVE = {514: squares}
QUESTIONS_OF_FIVE = {
    505: covers,
    506: left,
    507: fewest,
    508: first,
    509: many,
    510: greedy,
    511: over,
    512: over_any,
    513: deep,
    515: needs,
    516: bare,
}
