"""Sets of players. A set is told as a number, in which player i counts 2 to the power of i; here it is a list."""

from allplayall.powers import two_to_the


def is_set(league, number):
    """Whether all players of the set that the number tells are there."""
    return number < two_to_the(len(league))


def players_of(number):
    """The players of the set that the number tells, rising."""
    members = []
    rest = number
    player = 0
    while rest > 0:
        if rest % 2 == 1:
            members.append(player)
        rest = rest // 2
        player += 1
    return members


def set_number(members):
    """The number that tells the set of these players."""
    return sum([two_to_the(player) for player in members])


def all_sets(players):
    """All sets of so many players, as the numbers that tell them rise."""
    return [players_of(number) for number in range(two_to_the(players))]
