"""Players in order among themselves: one beat all others of them, the next all but that one, and so on."""

from allplayall.games import first_with_most
from allplayall.player_sets import all_sets


def wins_among(league, player, members):
    return sum([league[player][other] for other in members])


def who_beat_all(league, members):
    """Who of these beat all others of them; None if nobody did."""
    for player in members:
        if wins_among(league, player, members) == len(members) - 1:
            return player
    return None


def order_of(league, members):
    """These players, in order; None if they aren't."""
    order = []
    rest = members
    while len(rest) > 0:
        first = who_beat_all(league, rest)
        if first is None:
            return None
        order.append(first)
        rest = [player for player in rest if player != first]
    return order


def all_orders(league):
    """The players of each set in order, in order; as the numbers that tell the sets rise."""
    orders = [order_of(league, members) for members in all_sets(len(league))]
    return [order for order in orders if order is not None]


def most_of(orders):
    """How many players one of these has at most."""
    return max([len(order) for order in orders])


def can_be_added(league, members, player):
    """Whether these with that player, who is not one of them, are in order."""
    return player not in members and order_of(league, members + [player]) is not None


def grown_order(league):
    """Who wins most of all, then who of those whom this one beat wins most among these, and so on."""
    order = []
    rest = list(range(len(league)))
    while len(rest) > 0:
        player = first_with_most(rest, [wins_among(league, one, rest) for one in rest])
        order.append(player)
        rest = [other for other in rest if league[player][other] == 1]
    return order
