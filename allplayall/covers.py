"""Players who beat all others, and players over others."""

from allplayall.chains import is_beaten
from allplayall.games import first_with_most
from allplayall.player_sets import all_sets


def left_by(league, members):
    """Those who aren't of these, and whom none of these beat; rising."""
    return [i for i in range(len(league)) if i not in members and not is_beaten(league, members, i)]


def fewest_enough(league):
    """Of the sets that leave nobody those with the fewest players, as the numbers that tell them rise."""
    enough = [members for members in all_sets(len(league)) if len(left_by(league, members)) == 0]
    fewest = min([len(members) for members in enough])
    return [members for members in enough if len(members) == fewest]


def how_many_taken(league, player, left):
    """How many of those that are left the player takes; oneself, too."""
    return len([other for other in left if other == player or league[player][other] == 1])


def taken_one_by_one(league):
    """Who takes most of those that are left, then of those left then, and so on."""
    players = list(range(len(league)))
    taken = []
    left = players
    while len(left) > 0:
        taken.append(first_with_most(players, [how_many_taken(league, player, left) for player in players]))
        left = left_by(league, taken)
    return taken


def beat_all(league, player, members):
    return all([league[player][other] == 1 for other in members])


def over_these(league, members):
    """Those who beat all of these, rising. As nobody beat oneself, none of these are among them."""
    return [i for i in range(len(league)) if beat_all(league, i, members)]


def is_over_any(league, size):
    """Whether of all sets of that size each has somebody over it."""
    for members in all_sets(len(league)):
        if len(members) == size and len(over_these(league, members)) == 0:
            return False
    return True
