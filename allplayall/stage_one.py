"""One: rows and rounds."""

from allplayall.chains import all_rows, is_chain, part_of, parts_of, reached_from, rounds_from, row_put_in, rows_from
from allplayall.games import are_players, is_player
from allplayall.refusals import NO_SUCH, NOT_FIT, NOT_FOUND


def row(league):
    return [len(league)] + row_put_in(league)


def rows(league):
    return [len(all_rows(league))]


def nth(league, k):
    found = all_rows(league)
    if k >= len(found):
        return [NOT_FOUND]
    return [len(league)] + found[k]


def is_row(league, players):
    if sorted(players) != list(range(len(league))):
        return [NOT_FIT]
    return [1 if is_chain(league, players) else 0]


def begins(league, player):
    if not is_player(league, player):
        return [NO_SUCH]
    return [len(rows_from(league, player))]


def between(league, one, other):
    if not are_players(league, one, other):
        return [NO_SUCH]
    if one == other:
        return [NOT_FIT]
    return [len([found for found in rows_from(league, one) if found[-1] == other])]


def comes(league, one, other):
    if not are_players(league, one, other):
        return [NO_SUCH]
    return [1 if other in reached_from(league, one) else 0]


def part(league, player):
    if not is_player(league, player):
        return [NO_SUCH]
    members = part_of(league, player)
    return [len(members)] + members


def parts(league):
    found = parts_of(league)
    answer = [len(found)]
    for members in found:
        answer.append(members[0])
        answer.append(len(members))
    return answer


def strong(league):
    return [1 if len(parts_of(league)) == 1 else 0]


def can_have_rounds(league, length):
    return length >= 3 and length <= len(league)


def rounds(league, player, length):
    if not is_player(league, player):
        return [NO_SUCH]
    if not can_have_rounds(league, length):
        return [NOT_FIT]
    return [len(rounds_from(league, player, length))]


def first_round(league, player, length):
    if not is_player(league, player):
        return [NO_SUCH]
    if not can_have_rounds(league, length):
        return [NOT_FIT]
    found = rounds_from(league, player, length)
    if len(found) == 0:
        return [NOT_FOUND]
    return [length] + found[0]


QUESTIONS_OF_ONE = {
    105: row,
    106: rows,
    107: nth,
    108: is_row,
    109: comes,
    110: part,
    111: parts,
    112: strong,
    113: rounds,
    114: first_round,
    115: begins,
    116: between,
}
