"""Chains: different players, each of whom beat the next; and who comes to whom by them."""


def longer_chains(league, chains):
    longer = []
    for chain in chains:
        for player in range(len(league)):
            if league[chain[-1]][player] == 1 and player not in chain:
                longer.append(chain + [player])
    return longer


def chains_from(league, players, length):
    """All chains that have so many players and begin with one of these, which rise.

    They come in order: each step keeps it, as all are equally long and grow by the lesser number first.
    """
    chains = [[player] for player in players]
    for step in range(length - 1):
        chains = longer_chains(league, chains)
    return chains


def all_rows(league):
    """All chains of all players, in order."""
    return chains_from(league, list(range(len(league))), len(league))


def rows_from(league, player):
    """All rows that begin with that player, in order."""
    return chains_from(league, [player], len(league))


def rounds_from(league, player, length):
    """All rounds of so many through that player, begun with them, in order."""
    return [chain for chain in chains_from(league, [player], length) if league[chain[-1]][player] == 1]


def is_chain(league, players):
    for k in range(len(players) - 1):
        if league[players[k]][players[k + 1]] == 0:
            return False
    return True


def place_in(league, row, player):
    """Ahead of whom the player is put in: the first one there whom they beat."""
    for k, other in enumerate(row):
        if league[player][other] == 1:
            return k
    return len(row)


def row_put_in(league):
    """The row that comes of putting all players in one by one."""
    row = []
    for player in range(len(league)):
        row.insert(place_in(league, row, player), player)
    return row


def is_beaten(league, players, other):
    """Whether one of the players beat the other one."""
    return any([league[player][other] == 1 for player in players])


def reached_from(league, player):
    """All whom that player comes to, rising; oneself, too."""
    reached = [player]
    # Whoever is reached at all is reached in fewer steps than there are players.
    for step in range(len(league) - 1):
        reached = [i for i in range(len(league)) if i in reached or is_beaten(league, reached, i)]
    return reached


def part_of(league, player):
    """All who come to that player and to whom that player comes, rising."""
    return [i for i in reached_from(league, player) if player in reached_from(league, i)]


def parts_of(league):
    """All parts, that ahead first."""
    # One part is ahead of another just if its players come to more.
    leaders = sorted(list(range(len(league))), key=lambda player: -len(reached_from(league, player)))
    parts = []
    for player in leaders:
        part = part_of(league, player)
        if part not in parts:
            parts.append(part)
    return parts
