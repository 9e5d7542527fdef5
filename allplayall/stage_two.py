"""Two: wins that can be."""

from allplayall.games import MOST_PLAYERS, games_number, games_that_differ, is_games_number, is_player
from allplayall.games import league_with, table_of
from allplayall.refusals import NO_SUCH, NOT_FIT, NOT_FOUND, TOO_MANY
from allplayall.tables import all_tables, beyond_of, can_be, fewest_turns
from allplayall.threes import all_threes, three_turned

# Of more players all leagues are not gone through.
MOST_TRIED = 5


def is_table(told):
    return len(told) >= 1 and len(told) <= MOST_PLAYERS


def table(league):
    return [len(league)] + table_of(league)


def rank(league, player):
    if not is_player(league, player):
        return [NO_SUCH]
    return [len([row for row in league if sum(row) > sum(league[player])])]


def can(league, told):
    if not is_table(told):
        return [NOT_FIT]
    return [1 if can_be(told) else 0]


def beyond(league, k, told):
    if not is_table(told) or k > len(told):
        return [NOT_FIT]
    found = beyond_of(told, k)
    return [0, max(found, 0), max(-found, 0)]


def make(league, told):
    players = len(league)
    if len(told) != players or players > MOST_TRIED:
        return (league, [NOT_FIT])
    tables = all_tables(players)
    if told not in tables:
        return (league, [NOT_FOUND])
    number = tables.index(told)
    return (league_with(players, number), [number])


def many(league, told):
    if not is_table(told) or len(told) > MOST_TRIED:
        return [NOT_FIT]
    return [all_tables(len(told)).count(told)]


def threes(league):
    return [len(all_threes(league))]


def three(league, k):
    found = all_threes(league)
    if k >= len(found):
        return [NOT_FOUND]
    return found[k]


def turn_three(league, k):
    found = all_threes(league)
    if k >= len(found):
        return (league, [NOT_FOUND])
    changed = three_turned(league, found[k])
    return (changed, [games_number(changed)])


def differ(league, number):
    if not is_games_number(len(league), number):
        return [NOT_FIT]
    return [games_that_differ(league, league_with(len(league), number))]


def same(league, number):
    if not is_games_number(len(league), number):
        return [NOT_FIT]
    return [1 if table_of(league) == table_of(league_with(len(league), number)) else 0]


def turns(league, number):
    if not is_games_number(len(league), number):
        return [NOT_FIT]
    if len(league) > MOST_TRIED:
        return [TOO_MANY]
    found = fewest_turns(league, league_with(len(league), number))
    if found is None:
        return [NOT_FOUND]
    return [found]


CHANGES_OF_TWO = {208: make, 212: turn_three}
QUESTIONS_OF_TWO = {
    205: table,
    206: can,
    207: beyond,
    209: many,
    210: threes,
    211: three,
    213: differ,
    214: turns,
    215: same,
    216: rank,
}
