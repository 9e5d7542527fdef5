"""Six: leagues turned into themselves. Its calls are asked of no league of more than MOST_RENAMED players."""

from allplayall.each_stage import started_anew
from allplayall.games import are_players, games_number, games_of, is_games_number, is_player, league_with, turned
from allplayall.refusals import NO_SUCH, NOT_FIT, NOT_FOUND, TOO_MANY
from allplayall.ways import MOST_RENAMED, first_way, how_many_unlike, how_often_done, is_way, renamed
from allplayall.ways import renamed_numbers, told_for, ways_into_itself

# Of more players all leagues are not gone through.
MOST_CLASSED = 4


def start(league, players):
    return started_anew(league, players, MOST_RENAMED)


def rename(league, told):
    if not is_way(league, told):
        return (league, [NOT_FIT])
    changed = renamed(league, told)
    return (changed, [games_number(changed)])


def all_turned(league):
    return turned(league, games_of(len(league)))


def back(league):
    changed = all_turned(league)
    return (changed, [games_number(changed)])


def selves(league):
    return [len(ways_into_itself(league))]


def nth(league, k):
    ways = ways_into_itself(league)
    if k >= len(ways):
        return [NOT_FOUND]
    return [len(ways[k])] + ways[k]


def order(league, k):
    ways = ways_into_itself(league)
    if k >= len(ways):
        return [NOT_FOUND]
    return [how_often_done(ways[k])]


def alike_to(league, player):
    if not is_player(league, player):
        return [NO_SUCH]
    found = told_for(league, player)
    return [len(found)] + found


def same(league, one, other):
    if not are_players(league, one, other):
        return [NO_SUCH]
    return [1 if other in told_for(league, one) else 0]


def alike(league, number):
    if not is_games_number(len(league), number):
        return [NOT_FIT]
    way = first_way(league, league_with(len(league), number))
    if way is None:
        return [NOT_FOUND]
    return [len(way)] + way


def least(league):
    return [min(renamed_numbers(league))]


def others(league):
    return [len(set(renamed_numbers(league)))]


def back_alike(league):
    return [0 if first_way(league, all_turned(league)) is None else 1]


def classes(league):
    if len(league) > MOST_CLASSED:
        return [TOO_MANY]
    return [how_many_unlike(len(league))]


CHANGES_OF_SIX = {600: start, 610: rename, 613: back}
QUESTIONS_OF_SIX = {
    605: selves,
    606: nth,
    607: order,
    608: alike_to,
    609: same,
    611: alike,
    612: least,
    614: back_alike,
    615: others,
    616: classes,
}
