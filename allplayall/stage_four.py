"""Four: those in order among themselves."""

from allplayall.games import is_player
from allplayall.orders import all_orders, can_be_added, grown_order, most_of, order_of
from allplayall.player_sets import is_set, players_of, set_number
from allplayall.powers import two_to_the
from allplayall.refusals import NO_SUCH, NOT_FIT, NOT_FOUND

# Of more players it is not told how many are surely in order.
MOST_SURE = 1000


def in_order(league, told):
    if not is_set(league, told):
        return [NOT_FIT]
    return [0 if order_of(league, players_of(told)) is None else 1]


def order(league, told):
    if not is_set(league, told):
        return [NOT_FIT]
    found = order_of(league, players_of(told))
    if found is None:
        return [NOT_FOUND]
    return [len(found)] + found


def adds(league, told):
    if not is_set(league, told):
        return [NOT_FIT]
    members = players_of(told)
    if order_of(league, members) is None:
        return [NOT_FOUND]
    found = [player for player in range(len(league)) if can_be_added(league, members, player)]
    return [len(found)] + found


def most(league):
    return [most_of(all_orders(league))]


def best(league):
    orders = all_orders(league)
    size = most_of(orders)
    # The sets rise, so the first of them has the least number.
    first = [found for found in orders if len(found) == size][0]
    return [set_number(first)] + first


def many(league, size):
    return [len([found for found in all_orders(league) if len(found) == size])]


def all_in_order(league):
    return [len(all_orders(league))]


def among(league, player):
    if not is_player(league, player):
        return [NO_SUCH]
    return [most_of([found for found in all_orders(league) if player in found])]


def leave(league):
    return [len(league) - most_of(all_orders(league))]


def grown(league):
    found = grown_order(league)
    return [len(found)] + found


def sure(league, players):
    if players > MOST_SURE:
        return [NOT_FIT]
    powers = 0
    while two_to_the(powers) <= players:
        powers += 1
    return [powers]


QUESTIONS_OF_FOUR = {
    405: in_order,
    406: order,
    407: most,
    408: best,
    409: many,
    410: grown,
    411: among,
    412: leave,
    413: all_in_order,
    414: adds,
    415: sure,
}
