"""What all tests share: lines of calls by their names, and a second, plain telling of what they answer.

The Reference below follows the document's words as directly as it can, by going through everything there
is: pairs of who beat whom, all orders of the players, all leagues. It shares no code with the program.
"""

from functools import lru_cache
from itertools import combinations, permutations, product
from math import comb, factorial, lcm

from allplayall.leagues import answers

GREATEST = 4294967295

WHOLE = "start league copy drop joined into without sameTable alike differ undo redo state".split()
STAGES = {
    "one": (100, "start games turn beats wins row rows nth isRow comes part parts strong rounds round begins "
                 "between state".split()),
    "two": (200, "start games turn beats wins table can beyond make many threes three turnThree differ turns same "
                 "rank state".split()),
    "three": (300, "start games turn beats wins threes nth of through would byWins most level calm fours within "
                   "busiest state".split()),
    "four": (400, "start games turn beats wins inOrder order most best many grown among leave all adds sure "
                  "state".split()),
    "five": (500, "start games turn beats wins covers left fewest first many greedy over any deep squares needs bare "
                  "state".split()),
    "six": (600, "start games turn beats wins selves nth order alikeTo same rename alike least back backAlike others "
                 "classes state".split()),
}


def all_numbers():
    numbers = {name: number for number, name in enumerate(WHOLE)}
    for stage, (first, names) in STAGES.items():
        for place, name in enumerate(names):
            numbers[f"{stage}_{name}"] = first + place
    return numbers


NUMBERS = all_numbers()

# What each call is given: l a league, p a player, n how many players, m a games' number, c how many are in a round,
# s a set, t up to a thousand, q 3 or 7, e up to twenty, k another number; R a row or a way, W wins, P players.
OF_EACH = {"start": "ln", "games": "lm", "turn": "lpp", "beats": "lpp", "wins": "lp", "state": "l"}
GIVEN = {
    "start": "", "league": "n", "copy": "l", "drop": "l", "joined": "ll", "into": "ll", "without": "lp",
    "sameTable": "ll", "alike": "ll", "differ": "ll", "undo": "", "redo": "", "state": "",
    "one_row": "l", "one_rows": "l", "one_nth": "lk", "one_isRow": "lR", "one_comes": "lpp", "one_part": "lp",
    "one_parts": "l", "one_strong": "l", "one_rounds": "lpc", "one_round": "lpc", "one_begins": "lp",
    "one_between": "lpp",
    "two_table": "l", "two_can": "lW", "two_beyond": "lkW", "two_make": "lW", "two_many": "lW", "two_threes": "l",
    "two_three": "lk", "two_turnThree": "lk", "two_differ": "lm", "two_turns": "lm", "two_same": "lm",
    "two_rank": "lp",
    "three_threes": "l", "three_nth": "lk", "three_of": "lp", "three_through": "lpp", "three_would": "lpp",
    "three_byWins": "lW", "three_most": "lt", "three_level": "l", "three_calm": "l", "three_fours": "l",
    "three_within": "lP", "three_busiest": "l",
    "four_inOrder": "ls", "four_order": "ls", "four_most": "l", "four_best": "l", "four_many": "lk", "four_grown": "l",
    "four_among": "lp", "four_leave": "l", "four_all": "l", "four_adds": "ls", "four_sure": "lt",
    "five_covers": "ls", "five_left": "ls", "five_fewest": "l", "five_first": "l", "five_many": "l",
    "five_greedy": "l", "five_over": "ls", "five_any": "lk", "five_deep": "l", "five_squares": "lq",
    "five_needs": "le", "five_bare": "l",
    "six_selves": "l", "six_nth": "lk", "six_order": "lk", "six_alikeTo": "lp", "six_same": "lpp", "six_rename": "lR",
    "six_alike": "lm", "six_least": "l", "six_back": "l", "six_backAlike": "l", "six_others": "l", "six_classes": "l",
}
LISTS = "RWP"
for call_name in NUMBERS:
    if call_name not in GIVEN:
        GIVEN[call_name] = OF_EACH[call_name.split("_")[1]]

CHANGES = ["league", "copy", "drop", "joined", "into", "without"]
CHANGES += [f"{stage}_{name}" for stage in STAGES for name in ("start", "games", "turn")]
CHANGES += ["two_make", "two_turnThree", "five_squares", "six_rename", "six_back"]


def flat(call):
    """A call, told as its name and what it is given, as it is handed in."""
    numbers = [NUMBERS[call[0]]]
    for given in call[1:]:
        if isinstance(given, list):
            numbers.append(len(given))
            numbers.extend(given)
        else:
            numbers.append(given)
    return numbers


def line_of(calls):
    line = []
    for call in calls:
        line.extend(flat(call))
    return line


def split(told):
    """The list that is given back as one list for each call."""
    parts = []
    at = 0
    while at < len(told):
        parts.append(told[at + 1:at + 1 + told[at]])
        at += 1 + told[at]
    assert at == len(told), "the last answer is cut short"
    return parts


def ask(*calls):
    """What each of the calls answers, as they stand, in one line.

    Every line is handed in twice: it must be the same afterwards, and be answered the same again.
    """
    line = line_of(calls)
    handed = list(line)
    told = answers(handed)
    assert handed == line, "what was handed in is changed"
    assert answers(handed) == told, "the second time is not as the first"
    assert type(told) is list and all(type(number) is int for number in told), "not a list of whole numbers"
    parts = split(told)
    assert len(parts) == len(calls), "not one answer for each call"
    for part in parts:
        assert len(part) == 1 or min(part) >= 0, "a number below 0 that is no refusal's"
    return parts


def last(*calls):
    """What the last of the calls answers."""
    return ask(*calls)[-1]


def of_league(players, number, *calls):
    """What the calls answer behind a start and a league 0 of so many players with that games' number."""
    return ask(("start",), ("league", players), ("one_games", 0, number), *calls)[3:]


def one_of_league(players, number, *call):
    return of_league(players, number, call)[0]


def asking(k, players):
    """Calls of all stages that ask about league k of so many players, and change nothing."""
    some = {"p": list(range(players)), "m": [0, 2 ** (players * (players - 1) // 2) - 1], "c": [3, players], "k": [0, 1, 2],
            "s": [0, 1, 2 ** players - 2, 2 ** players - 1], "t": [players], "e": [players],
            "R": [list(range(players))[::-1]], "W": [list(range(players))], "P": [list(range(1, players))]}
    names = [name for name in NUMBERS if "_" in name and name not in CHANGES]
    return [(name, k, *given) for name in names for given in product(*[some[kind] for kind in GIVEN[name][1:]])]


def all_told(begin, k, players):
    """What all these calls answer of league k behind the calls that begin each line."""
    calls = asking(k, players)
    told = []
    for at in range(0, len(calls), 150):
        told += ask(*begin, *calls[at:at + 150])[len(begin):]
    return told


def number_of(players, beaten):
    """The games' number of the league in which the pairs told, and only these, are won by the greater number."""
    games = list(combinations(range(players), 2))
    return sum(2 ** games.index((min(pair), max(pair))) for pair in beaten)


# 0 beat 1, 1 beat 2, 2 beat 0; and the same the other way round.
CIRCLE = 2
CIRCLE_BACK = 5
# Of four: all as by their numbers, but 3 beat 0.
FOUR = 4
# Of four: 0 beat all others, who are a circle.
WINNER_AHEAD = number_of(4, [(1, 3)])
# Of seven: i beat the one who is 1, 2 or 4 behind, round and round.
SEVEN = number_of(7, [(i, j) for i, j in combinations(range(7), 2) if j - i not in (1, 2, 4)])


class Refused(Exception):
    def __init__(self, number):
        Exception.__init__(self, str(number))
        self.number = number


def refuse(when, number):
    if when:
        raise Refused(number)


@lru_cache(maxsize=None)
def games_in_order(players):
    return [(i, j) for i in range(players) for j in range(i + 1, players)]


@lru_cache(maxsize=None)
def by_number(players, number):
    """A league here is how many players it has, and all pairs of a player and one whom they beat."""
    won = set()
    for k, (i, j) in enumerate(games_in_order(players)):
        won.add((j, i) if number >> k & 1 else (i, j))
    return players, frozenset(won)


def to_number(league):
    players, won = league
    return sum(2 ** k for k, (i, j) in enumerate(games_in_order(players)) if (j, i) in won)


def table_told(league):
    players, won = league
    return [sum(1 for winner, loser in won if winner == i) for i in range(players)]


@lru_cache(maxsize=None)
def rows_told(league):
    players, won = league
    return [list(row) for row in permutations(range(players)) if all(pair in won for pair in zip(row, row[1:]))]


@lru_cache(maxsize=None)
def comes_told(league):
    players, won = league
    comes = {(i, j): i == j or (i, j) in won for i in range(players) for j in range(players)}
    for k, i, j in product(range(players), repeat=3):
        comes[i, j] = comes[i, j] or (comes[i, k] and comes[k, j])
    return comes


def part_told(league, i):
    comes = comes_told(league)
    return [j for j in range(league[0]) if comes[i, j] and comes[j, i]]


def parts_told(league):
    comes = comes_told(league)
    parts = [part_told(league, i) for i in range(league[0]) if part_told(league, i)[0] == i]
    # That ahead has fewer ahead of it.
    return sorted(parts, key=lambda part: sum(1 for other in parts if comes[other[0], part[0]]))


@lru_cache(maxsize=None)
def rounds_told(league, i, k):
    players, won = league
    others = [j for j in range(players) if j != i]
    rounds = [[i] + list(rest) for rest in permutations(others, k - 1)]
    return [found for found in rounds if all((found[p - 1], found[p]) in won for p in range(k))]


@lru_cache(maxsize=None)
def threes_told(league):
    players, won = league
    return [[a, b, c] for a, b, c in permutations(range(players), 3)
            if a == min(a, b, c) and (a, b) in won and (b, c) in won and (c, a) in won]


def games_turned(league, pairs):
    players, won = league
    left = {(winner, loser) for winner, loser in won if {winner, loser} not in [set(pair) for pair in pairs]}
    return players, frozenset(left | {(loser, winner) for winner, loser in won - left})


def leagues_with_table(table):
    players = len(table)
    return [m for m in range(2 ** comb(players, 2)) if table_told(by_number(players, m)) == table]


@lru_cache(maxsize=None)
def numbers_with_table(table):
    return leagues_with_table(list(table))


def beyond_told(table, k):
    return sum(sorted(table)[:k]) - comb(k, 2)


@lru_cache(maxsize=None)
def turns_told(league, goal):
    near = {league}
    for turns in range(1000):
        if goal in near:
            return turns
        wider = near | {games_turned(one, [(a, b), (b, c), (c, a)]) for one in near for a, b, c in threes_told(one)}
        refuse(wider == near, -33)
        near = wider
    raise AssertionError("never done")


@lru_cache(maxsize=None)
def order_told(league, members):
    """The one order of these in which each beat all behind, if there is one."""
    for row in permutations(members):
        if all(pair in league[1] for pair in combinations(row, 2)):
            return list(row)
    return None


def members_told(number):
    return tuple(i for i in range(7) if number >> i & 1)


@lru_cache(maxsize=None)
def orders_told(league):
    """The numbers of all sets in order."""
    return [s for s in range(2 ** league[0]) if order_told(league, members_told(s)) is not None]


def most_told(sets):
    return max(bin(s).count("1") for s in sets)


def grown_told(league, rest):
    if not rest:
        return []
    wins = {i: len([j for j in rest if (i, j) in league[1]]) for i in rest}
    player = min(rest, key=lambda i: (-wins[i], i))
    return [player] + grown_told(league, [j for j in rest if (player, j) in league[1]])


def left_told(league, members):
    reached = set(members) | {loser for winner, loser in league[1] if winner in members}
    return sorted(set(range(league[0])) - reached)


@lru_cache(maxsize=None)
def enough_told(league):
    """All sets of the fewest players who leave nobody, by how many there are and then by their numbers."""
    for size in range(league[0] + 1):
        found = [s for s in range(2 ** league[0]) if len(members_told(s)) == size]
        found = [s for s in found if left_told(league, members_told(s)) == []]
        if found:
            return found


def over_told(league, members):
    return [i for i in range(league[0]) if i not in members and {(i, j) for j in members} <= league[1]]


def any_told(league, size):
    return all(over_told(league, members) for members in combinations(range(league[0]), size))


def renamed_told(league, way):
    players, won = league
    return players, frozenset((i, j) for i, j in permutations(range(players), 2) if (way[i], way[j]) in won)


@lru_cache(maxsize=None)
def all_renamed_told(league):
    """The games' numbers of the league renamed by all ways."""
    players, won = league
    return frozenset(sum(2 ** k for k, (i, j) in enumerate(games_in_order(players)) if (way[j], way[i]) in won)
                     for way in permutations(range(players)))


@lru_cache(maxsize=None)
def ways_told(league, goal):
    pairs = games_in_order(league[0])
    return [list(way) for way in permutations(range(league[0]))
            if all(((i, j) in goal[1]) == ((way[i], way[j]) in league[1]) for i, j in pairs)]


def all_back(league):
    return league[0], frozenset((loser, winner) for winner, loser in league[1])


def ring_of(way, i):
    """How many steps by the way it takes from i back to i."""
    steps, at = 1, way[i]
    while at != i:
        steps, at = steps + 1, way[at]
    return steps


class Reference:
    """One object; each call has its own method, which answers a list or refuses."""

    def __init__(self):
        self.leagues = None
        self.before = []
        self.after = []

    def told(self, call):
        name = call[0]
        if name == "start":
            self.leagues, self.before, self.after = [], [], []
            return [0]
        if self.leagues is None:
            return [-11]
        earlier = list(self.leagues)
        try:
            answer = self.answered(name, list(call[1:]))
        except Refused as refusal:
            assert self.leagues == earlier
            return [refusal.number]
        if name in CHANGES:
            self.before.append(earlier)
            self.before = self.before[-20:]
            self.after = []
        return answer

    def answered(self, name, given):
        if "_" not in name:
            return getattr(self, name)(*given)
        refuse(given[0] >= len(self.leagues), -2)
        stage, call = name.split("_")
        refuse(stage == "six" and self.leagues[given[0]][0] == 7, -28)
        refuse(name == "six_start" and given[1] == 7, -22)
        if call == "state":
            return self.stage_state(*given)
        return getattr(self, call if call in OF_EACH else name)(*given)

    def has(self, *numbers):
        refuse(any(k >= len(self.leagues) for k in numbers), -2)

    def player(self, k, *players):
        refuse(any(i >= self.leagues[k][0] for i in players), -2)

    def two(self, k, i, j):
        self.player(k, i, j)
        refuse(i == j, -22)

    def number(self, k, m):
        refuse(m >= 2 ** comb(self.leagues[k][0], 2), -22)

    def more(self, league):
        refuse(len(self.leagues) >= 4, -28)
        self.leagues.append(league)
        return [len(self.leagues) - 1, league[0], to_number(league)]

    def league(self, n):
        refuse(not 1 <= n <= 7, -22)
        return self.more(by_number(n, 0))

    def copy(self, k):
        self.has(k)
        return self.more(self.leagues[k])

    def drop(self, k):
        self.has(k)
        return [self.leagues.pop(k)[0]]

    def joined(self, j, k):
        self.has(j, k)
        (first, won), (second, others) = self.leagues[j], self.leagues[k]
        refuse(first + second > 7, -22)
        across = {(i, first + h) for i in range(first) for h in range(second)}
        return self.more((first + second, won | across | {(first + a, first + b) for a, b in others}))

    def into(self, j, k):
        self.has(j, k)
        (first, won), (second, others) = self.leagues[j], self.leagues[k]
        refuse(first * second > 7, -22)
        players = [(i, h) for i in range(first) for h in range(second)]
        pairs = {(p, q) for p in players for q in players
                 if ((p[0], q[0]) in won if p[0] != q[0] else (p[1], q[1]) in others)}
        return self.more((first * second, frozenset((players.index(p), players.index(q)) for p, q in pairs)))

    def without(self, k, i):
        self.has(k)
        self.player(k, i)
        players, won = self.leagues[k]
        refuse(players == 1, -22)
        names = [j for j in range(players) if j != i]
        return self.more((players - 1, frozenset((names.index(a), names.index(b)) for a, b in won if i not in (a, b))))

    def both(self, j, k):
        self.has(j, k)
        refuse(self.leagues[j][0] != self.leagues[k][0], -22)

    def sameTable(self, j, k):
        self.both(j, k)
        return [int(table_told(self.leagues[j]) == table_told(self.leagues[k]))]

    def differ(self, j, k):
        self.both(j, k)
        return [len(self.leagues[j][1] - self.leagues[k][1])]

    def alike(self, j, k):
        self.both(j, k)
        refuse(self.leagues[j][0] > 6, -22)
        return self.first_way(self.leagues[j], self.leagues[k])

    def first_way(self, league, goal):
        ways = ways_told(league, goal)
        refuse(not ways, -33)
        return [league[0]] + min(ways)

    def undo(self):
        refuse(not self.before, -6)
        self.after.append(self.leagues)
        self.leagues = self.before.pop()
        return [len(self.before)]

    def redo(self):
        refuse(not self.after, -6)
        self.before.append(self.leagues)
        self.leagues = self.after.pop()
        return [len(self.after)]

    def state(self):
        return [len(self.leagues), len(self.before), len(self.after)] + [players for players, won in self.leagues]

    def start(self, k, n):
        refuse(not 1 <= n <= 7, -22)
        self.leagues[k] = by_number(n, 0)
        return [0]

    def games(self, k, m):
        self.number(k, m)
        self.leagues[k] = by_number(self.leagues[k][0], m)
        return [comb(self.leagues[k][0], 2)]

    def turn(self, k, i, j):
        self.two(k, i, j)
        self.leagues[k] = games_turned(self.leagues[k], [(i, j)])
        return [i if (i, j) in self.leagues[k][1] else j]

    def beats(self, k, i, j):
        self.player(k, i, j)
        return [int((i, j) in self.leagues[k][1])]

    def wins(self, k, i):
        self.player(k, i)
        return [table_told(self.leagues[k])[i]]

    def stage_state(self, k):
        return [self.leagues[k][0], to_number(self.leagues[k])]

    def one_row(self, k):
        row = []
        for i in range(self.leagues[k][0]):
            beaten = [place for place, j in enumerate(row) if (i, j) in self.leagues[k][1]]
            row = row[:beaten[0]] + [i] + row[beaten[0]:] if beaten else row + [i]
        return [len(row)] + row

    def one_rows(self, k):
        return [len(rows_told(self.leagues[k]))]

    def one_nth(self, k, place):
        refuse(place >= len(rows_told(self.leagues[k])), -33)
        return [self.leagues[k][0]] + rows_told(self.leagues[k])[place]

    def one_isRow(self, k, row):
        refuse(tuple(row) not in permutations(range(self.leagues[k][0])), -22)
        return [int(row in rows_told(self.leagues[k]))]

    def one_begins(self, k, i):
        self.player(k, i)
        return [sum(1 for row in rows_told(self.leagues[k]) if row[0] == i)]

    def one_between(self, k, i, j):
        self.two(k, i, j)
        return [sum(1 for row in rows_told(self.leagues[k]) if (row[0], row[-1]) == (i, j))]

    def one_comes(self, k, i, j):
        self.player(k, i, j)
        return [int(comes_told(self.leagues[k])[i, j])]

    def one_part(self, k, i):
        self.player(k, i)
        part = part_told(self.leagues[k], i)
        return [len(part)] + part

    def one_parts(self, k):
        parts = parts_told(self.leagues[k])
        return [len(parts)] + [number for part in parts for number in (part[0], len(part))]

    def one_strong(self, k):
        return [int(all(comes_told(self.leagues[k]).values()))]

    def one_rounds(self, k, i, length):
        self.player(k, i)
        refuse(not 3 <= length <= self.leagues[k][0], -22)
        return [len(rounds_told(self.leagues[k], i, length))]

    def one_round(self, k, i, length):
        refuse(self.one_rounds(k, i, length) == [0], -33)
        return [length] + rounds_told(self.leagues[k], i, length)[0]

    def two_table(self, k):
        return [self.leagues[k][0]] + table_told(self.leagues[k])

    def two_rank(self, k, i):
        self.player(k, i)
        table = table_told(self.leagues[k])
        return [sum(1 for wins in table if wins > table[i])]

    def two_can(self, k, table):
        refuse(not 1 <= len(table) <= 7, -22)
        return [int(all(beyond_told(table, p) >= 0 for p in range(len(table)))
                    and beyond_told(table, len(table)) == 0)]

    def two_beyond(self, k, place, table):
        refuse(not 1 <= len(table) <= 7 or place > len(table), -22)
        beyond = beyond_told(table, place)
        return [0, beyond, 0] if beyond >= 0 else [0, 0, -beyond]

    def two_make(self, k, table):
        refuse(len(table) != self.leagues[k][0] or len(table) > 5, -22)
        refuse(not numbers_with_table(tuple(table)), -33)
        number = min(numbers_with_table(tuple(table)))
        self.leagues[k] = by_number(len(table), number)
        return [number]

    def two_many(self, k, table):
        refuse(not 1 <= len(table) <= 5, -22)
        return [len(numbers_with_table(tuple(table)))]

    def two_threes(self, k):
        return [len(threes_told(self.leagues[k]))]

    def two_three(self, k, place):
        refuse(place >= len(threes_told(self.leagues[k])), -33)
        return threes_told(self.leagues[k])[place]

    def two_turnThree(self, k, place):
        a, b, c = self.two_three(k, place)
        self.leagues[k] = games_turned(self.leagues[k], [(a, b), (b, c), (c, a)])
        return [to_number(self.leagues[k])]

    def two_differ(self, k, m):
        self.number(k, m)
        return [bin(to_number(self.leagues[k]) ^ m).count("1")]

    def two_same(self, k, m):
        self.number(k, m)
        return [int(table_told(self.leagues[k]) == table_told(by_number(self.leagues[k][0], m)))]

    def two_turns(self, k, m):
        self.number(k, m)
        refuse(self.leagues[k][0] > 5, -28)
        return [turns_told(self.leagues[k], by_number(self.leagues[k][0], m))]

    def three_threes(self, k):
        return self.two_threes(k)

    def three_nth(self, k, place):
        return [3] + self.two_three(k, place)

    def three_of(self, k, i):
        self.player(k, i)
        return [sum(1 for three in threes_told(self.leagues[k]) if i in three)]

    def three_through(self, k, i, j):
        self.two(k, i, j)
        return [sum(1 for three in threes_told(self.leagues[k]) if {i, j} <= set(three))]

    def three_would(self, k, i, j):
        self.two(k, i, j)
        return [len(threes_told(games_turned(self.leagues[k], [(i, j)])))]

    def three_byWins(self, k, wins):
        refuse(not 1 <= len(wins) <= 30 or max(wins) > 30, -22)
        found = comb(len(wins), 3) - sum(comb(w, 2) for w in wins)
        refuse(found < 0, -33)
        return [found]

    def three_most(self, k, n):
        refuse(n > 1000, -22)
        # Most there are where wins are level.
        return [comb(n, 3) - sum(comb((n - 1 + i % 2) // 2, 2) for i in range(n))]

    def three_level(self, k):
        table = table_told(self.leagues[k])
        return [int(all(abs(one - other) <= 1 for one, other in product(table, repeat=2)))]

    def three_calm(self, k):
        busy = {i for three in threes_told(self.leagues[k]) for i in three}
        calm = [i for i in range(self.leagues[k][0]) if i not in busy]
        return [len(calm)] + calm

    def three_fours(self, k):
        threes = threes_told(self.leagues[k])
        many = [sum(1 for three in threes if set(three) <= set(four))
                for four in combinations(range(self.leagues[k][0]), 4)]
        return [len(many), many.count(0), many.count(1), many.count(2)]

    def three_within(self, k, players):
        self.player(k, *players)
        return [sum(1 for three in threes_told(self.leagues[k]) if set(three) <= set(players))]

    def three_busiest(self, k):
        often = [self.three_of(k, i)[0] for i in range(self.leagues[k][0])]
        return min([i, many] for i, many in enumerate(often) if many == max(often))

    def set_of(self, k, s):
        refuse(s >= 2 ** self.leagues[k][0], -22)
        return members_told(s)

    def four_inOrder(self, k, s):
        return [int(order_told(self.leagues[k], self.set_of(k, s)) is not None)]

    def four_order(self, k, s):
        order = order_told(self.leagues[k], self.set_of(k, s))
        refuse(order is None, -33)
        return [len(order)] + order

    def four_adds(self, k, s):
        self.four_order(k, s)
        added = [i for i in range(self.leagues[k][0]) if not s >> i & 1 and s + 2 ** i in orders_told(self.leagues[k])]
        return [len(added)] + added

    def four_most(self, k):
        return [most_told(orders_told(self.leagues[k]))]

    def four_best(self, k):
        most = self.four_most(k)[0]
        best = min(s for s in orders_told(self.leagues[k]) if len(members_told(s)) == most)
        return [best] + order_told(self.leagues[k], members_told(best))

    def four_many(self, k, size):
        return [sum(1 for s in orders_told(self.leagues[k]) if len(members_told(s)) == size)]

    def four_all(self, k):
        return [len(orders_told(self.leagues[k]))]

    def four_among(self, k, i):
        self.player(k, i)
        return [most_told(s for s in orders_told(self.leagues[k]) if i in members_told(s))]

    def four_leave(self, k):
        players = range(self.leagues[k][0])
        return [min(len(players) - len(kept) for size in range(len(players) + 1)
                    for kept in combinations(players, size) if order_told(self.leagues[k], kept) is not None)]

    def four_grown(self, k):
        grown = grown_told(self.leagues[k], list(range(self.leagues[k][0])))
        return [len(grown)] + grown

    def four_sure(self, k, n):
        refuse(n > 1000, -22)
        return [sum(1 for power in (1, 2, 4, 8, 16, 32, 64, 128, 256, 512, 1024) if power <= n)]

    def five_squares(self, k, n):
        refuse(n not in (3, 7), -22)
        steps = {3: (1,), 7: (1, 2, 4)}[n]
        self.leagues[k] = n, frozenset((i, j) if j - i in steps else (j, i) for i, j in combinations(range(n), 2))
        return [to_number(self.leagues[k])]

    def five_covers(self, k, s):
        return [int(self.five_left(k, s) == [0])]

    def five_left(self, k, s):
        left = left_told(self.leagues[k], self.set_of(k, s))
        return [len(left)] + left

    def five_fewest(self, k):
        return [len(members_told(enough_told(self.leagues[k])[0]))]

    def five_first(self, k):
        first = min(enough_told(self.leagues[k]))
        return [first] + list(members_told(first))

    def five_many(self, k):
        return [len(enough_told(self.leagues[k]))]

    def five_greedy(self, k):
        players, won = self.leagues[k]
        taken, left = [], set(range(players))
        while left:
            takes = [len(left & ({j for j in range(players) if (i, j) in won} | {i})) for i in range(players)]
            taken.append(takes.index(max(takes)))
            left = set(left_told(self.leagues[k], taken))
        return [len(taken)] + taken

    def five_over(self, k, s):
        over = over_told(self.leagues[k], self.set_of(k, s))
        return [len(over)] + over

    def five_any(self, k, size):
        # Of more players than there are there is no set, and so none that nobody is over.
        return [int(size > self.leagues[k][0] or any_told(self.leagues[k], size))]

    def five_deep(self, k):
        so = [any_told(self.leagues[k], size) for size in range(self.leagues[k][0] + 1)]
        return [max(size for size in range(len(so)) if all(so[:size + 1]))]

    def five_needs(self, k, power):
        refuse(power > 20, -22)
        return [2 ** (power + 1) - 1]

    def five_bare(self, k):
        bare = [i for i, wins in enumerate(table_told(self.leagues[k])) if wins == 0]
        return [len(bare)] + bare

    def six_selves(self, k):
        return [len(ways_told(self.leagues[k], self.leagues[k]))]

    def six_nth(self, k, place):
        ways = ways_told(self.leagues[k], self.leagues[k])
        refuse(place >= len(ways), -33)
        return [self.leagues[k][0]] + ways[place]

    def six_order(self, k, place):
        way = self.six_nth(k, place)[1:]
        return [lcm(*[ring_of(way, i) for i in range(len(way))])]

    def six_alikeTo(self, k, i):
        self.player(k, i)
        alike = sorted({way[i] for way in ways_told(self.leagues[k], self.leagues[k])})
        return [len(alike)] + alike

    def six_same(self, k, i, j):
        self.player(k, i, j)
        return [int(any(way[i] == j for way in ways_told(self.leagues[k], self.leagues[k])))]

    def six_rename(self, k, way):
        refuse(tuple(way) not in permutations(range(self.leagues[k][0])), -22)
        self.leagues[k] = renamed_told(self.leagues[k], way)
        return [to_number(self.leagues[k])]

    def six_alike(self, k, m):
        self.number(k, m)
        return self.first_way(self.leagues[k], by_number(self.leagues[k][0], m))

    def six_least(self, k):
        return [min(all_renamed_told(self.leagues[k]))]

    def six_back(self, k):
        self.leagues[k] = all_back(self.leagues[k])
        return [to_number(self.leagues[k])]

    def six_backAlike(self, k):
        return [int(bool(ways_told(self.leagues[k], all_back(self.leagues[k]))))]

    def six_others(self, k):
        return [factorial(self.leagues[k][0]) // self.six_selves(k)[0]]

    def six_classes(self, k):
        players = self.leagues[k][0]
        refuse(players > 4, -28)
        leagues = [by_number(players, m) for m in range(2 ** comb(players, 2))]
        return [len({all_renamed_told(league) for league in leagues})]


def reference(*calls):
    whole = Reference()
    return [whole.told(call) for call in calls]
