"""What all tests share: lines of calls by their names, and a second, plain telling of what they answer.

The Reference below follows the document's words as directly as it can, by going through everything there
is: pairs of who beat whom, all orders of the players, all leagues. It shares no code with the program.
"""

from copy import deepcopy
from functools import lru_cache
from itertools import combinations, permutations, product
from math import comb

from allplayall.leagues import answers

GREATEST = 4294967295

WHOLE = "start league copy drop joined into without sameTable alike differ undo redo state".split()
STAGES = {
    "one": (100, "start games turn beats wins row rows nth isRow comes part parts strong rounds round begins "
                 "between state".split()),
    "two": (200, "start games turn beats wins table can beyond make many threes three turnThree differ turns same "
                 "rank state".split()),
    "three": (300, "start games turn beats wins threes nth of through would byWins".split()),
}


def all_numbers():
    numbers = {name: number for number, name in enumerate(WHOLE)}
    for stage, (first, names) in STAGES.items():
        for place, name in enumerate(names):
            numbers[f"{stage}_{name}"] = first + place
    return numbers


NUMBERS = all_numbers()

# What each call is given: l a league, p a player, n how many players, m a games' number, c how many are in a round,
# k another number, R a row, W wins.
OF_EACH = {"start": "ln", "games": "lm", "turn": "lpp", "beats": "lpp", "wins": "lp", "state": "l"}
GIVEN = {
    "start": "", "league": "n", "copy": "l", "drop": "l", "joined": "ll", "into": "ll", "without": "lp",
    "sameTable": "ll", "alike": "ll", "differ": "ll", "undo": "", "redo": "", "state": "",
    "one_row": "l", "one_rows": "l", "one_nth": "lk", "one_isRow": "lR", "one_comes": "lpp", "one_part": "lp",
    "one_parts": "l", "one_strong": "l", "one_rounds": "lpc", "one_round": "lpc", "one_begins": "lp",
    "one_between": "lpp",
    "two_table": "l", "two_can": "lW", "two_beyond": "lkW", "two_make": "lW", "two_many": "lW", "two_threes": "l",
    "two_three": "lk", "two_turnThree": "lk", "two_differ": "lm", "two_turns": "lm", "two_same": "lm",
    "two_rank": "lp",
    "three_threes": "l", "three_nth": "lk", "three_of": "lp", "three_through": "lpp", "three_would": "lpp",
    "three_byWins": "lW",
}
for call_name in NUMBERS:
    if call_name not in GIVEN:
        GIVEN[call_name] = OF_EACH[call_name.split("_")[1]]

CHANGES = ["league", "copy", "drop", "joined", "into", "without"] + [
    name for name in NUMBERS if name.split("_")[-1] in ("games", "turn", "make", "turnThree")
] + ["one_start", "two_start", "three_start"]


def flat(call):
    """A call, told as its name and what it is given, as it is handed in."""
    numbers = [NUMBERS[call[0]]]
    for given in call[1:]:
        if isinstance(given, list):
            numbers.append(len(given))
            numbers.extend(given)
        else:
            numbers.append(given)
    return numbers


def line_of(calls):
    line = []
    for call in calls:
        line.extend(flat(call))
    return line


def split(told):
    """The list that is given back as one list for each call."""
    parts = []
    at = 0
    while at < len(told):
        parts.append(told[at + 1:at + 1 + told[at]])
        at += 1 + told[at]
    assert at == len(told), "the last answer is cut short"
    return parts


def ask(*calls):
    """What each of the calls answers, as they stand, in one line.

    Every line is handed in twice: it must be the same afterwards, and be answered the same again.
    """
    line = line_of(calls)
    handed = list(line)
    told = answers(handed)
    assert handed == line, "what was handed in is changed"
    assert answers(handed) == told, "the second time is not as the first"
    assert type(told) is list and all(type(number) is int for number in told), "not a list of whole numbers"
    parts = split(told)
    assert len(parts) == len(calls), "not one answer for each call"
    for part in parts:
        assert len(part) == 1 or min(part) >= 0, "a number below 0 that is no refusal's"
    return parts


def last(*calls):
    """What the last of the calls answers."""
    return ask(*calls)[-1]


def of_league(players, number, *calls):
    """What the calls answer behind a start and a league 0 of so many players with that games' number."""
    return ask(("start",), ("league", players), ("one_games", 0, number), *calls)[3:]


def one_of_league(players, number, *call):
    return of_league(players, number, call)[0]


def number_of(players, beaten):
    """The games' number of the league in which the pairs told, and only these, are won by the greater number."""
    games = list(combinations(range(players), 2))
    return sum(2 ** games.index((min(pair), max(pair))) for pair in beaten)


# 0 beat 1, 1 beat 2, 2 beat 0; and the same the other way round.
CIRCLE = 2
CIRCLE_BACK = 5
# Of four: all as by their numbers, but 3 beat 0.
FOUR = 4
# Of seven: i beat the one who is 1, 2 or 4 behind, round and round.
SEVEN = number_of(7, [(i, j) for i, j in combinations(range(7), 2) if j - i not in (1, 2, 4)])


class Refused(Exception):
    def __init__(self, number):
        Exception.__init__(self, str(number))
        self.number = number


def refuse(when, number):
    if when:
        raise Refused(number)


@lru_cache(maxsize=None)
def games_in_order(players):
    return [(i, j) for i in range(players) for j in range(i + 1, players)]


@lru_cache(maxsize=None)
def by_number(players, number):
    """A league here is how many players it has, and all pairs of a player and one whom they beat."""
    won = set()
    for k, (i, j) in enumerate(games_in_order(players)):
        won.add((j, i) if number >> k & 1 else (i, j))
    return players, frozenset(won)


def to_number(league):
    players, won = league
    return sum(2 ** k for k, (i, j) in enumerate(games_in_order(players)) if (j, i) in won)


def table_told(league):
    players, won = league
    return [sum(1 for winner, loser in won if winner == i) for i in range(players)]


@lru_cache(maxsize=None)
def rows_told(league):
    players, won = league
    return [list(row) for row in permutations(range(players)) if all(pair in won for pair in zip(row, row[1:]))]


@lru_cache(maxsize=None)
def comes_told(league):
    players, won = league
    comes = {(i, j): i == j or (i, j) in won for i in range(players) for j in range(players)}
    for k, i, j in product(range(players), repeat=3):
        comes[i, j] = comes[i, j] or (comes[i, k] and comes[k, j])
    return comes


def part_told(league, i):
    comes = comes_told(league)
    return [j for j in range(league[0]) if comes[i, j] and comes[j, i]]


def parts_told(league):
    comes = comes_told(league)
    parts = [part_told(league, i) for i in range(league[0]) if part_told(league, i)[0] == i]
    # That ahead has fewer ahead of it.
    return sorted(parts, key=lambda part: sum(1 for other in parts if comes[other[0], part[0]]))


@lru_cache(maxsize=None)
def rounds_told(league, i, k):
    players, won = league
    others = [j for j in range(players) if j != i]
    rounds = [[i] + list(rest) for rest in permutations(others, k - 1)]
    return [found for found in rounds if all((found[p - 1], found[p]) in won for p in range(k))]


@lru_cache(maxsize=None)
def threes_told(league):
    players, won = league
    return [[a, b, c] for a, b, c in permutations(range(players), 3)
            if a == min(a, b, c) and (a, b) in won and (b, c) in won and (c, a) in won]


def games_turned(league, pairs):
    players, won = league
    left = {(winner, loser) for winner, loser in won if {winner, loser} not in [set(pair) for pair in pairs]}
    return players, frozenset(left | {(loser, winner) for winner, loser in won - left})


def leagues_with_table(table):
    players = len(table)
    return [m for m in range(2 ** comb(players, 2)) if table_told(by_number(players, m)) == table]


@lru_cache(maxsize=None)
def numbers_with_table(table):
    return leagues_with_table(list(table))


def beyond_told(table, k):
    return sum(sorted(table)[:k]) - comb(k, 2)


@lru_cache(maxsize=None)
def turns_told(league, goal):
    near = {league}
    for turns in range(1000):
        if goal in near:
            return turns
        wider = near | {games_turned(one, [(a, b), (b, c), (c, a)]) for one in near for a, b, c in threes_told(one)}
        refuse(wider == near, -33)
        near = wider
    raise AssertionError("never done")


class Reference:
    """One object; each call has its own method, which answers a list or refuses."""

    def __init__(self):
        self.leagues = None
        self.before = []
        self.after = []

    def told(self, call):
        name = call[0]
        if name == "start":
            self.leagues, self.before, self.after = [], [], []
            return [0]
        if self.leagues is None:
            return [-11]
        earlier = deepcopy(self.leagues)
        try:
            answer = self.answered(name, list(call[1:]))
        except Refused as refusal:
            assert self.leagues == earlier
            return [refusal.number]
        if name in CHANGES:
            self.before.append(earlier)
            self.before = self.before[-20:]
            self.after = []
        return answer

    def answered(self, name, given):
        if "_" not in name:
            return getattr(self, name)(*given)
        refuse(given[0] >= len(self.leagues), -2)
        stage, call = name.split("_")
        method = getattr(self, call, None) if call in OF_EACH else None
        if method is None or call == "state":
            method = getattr(self, name if call != "state" else "stage_state")
        return method(*given)

    def has(self, *numbers):
        refuse(any(k >= len(self.leagues) for k in numbers), -2)

    def player(self, k, *players):
        refuse(any(i >= self.leagues[k][0] for i in players), -2)

    def two(self, k, i, j):
        self.player(k, i, j)
        refuse(i == j, -22)

    def number(self, k, m):
        refuse(m >= 2 ** comb(self.leagues[k][0], 2), -22)

    def more(self, league):
        refuse(len(self.leagues) >= 4, -28)
        self.leagues.append(league)
        return [len(self.leagues) - 1, league[0], to_number(league)]

    def league(self, n):
        refuse(not 1 <= n <= 7, -22)
        return self.more(by_number(n, 0))

    def copy(self, k):
        self.has(k)
        return self.more(self.leagues[k])

    def drop(self, k):
        self.has(k)
        return [self.leagues.pop(k)[0]]

    def joined(self, j, k):
        self.has(j, k)
        (first, won), (second, others) = self.leagues[j], self.leagues[k]
        refuse(first + second > 7, -22)
        across = {(i, first + h) for i in range(first) for h in range(second)}
        return self.more((first + second, won | across | {(first + a, first + b) for a, b in others}))

    def into(self, j, k):
        self.has(j, k)
        (first, won), (second, others) = self.leagues[j], self.leagues[k]
        refuse(first * second > 7, -22)
        players = [(i, h) for i in range(first) for h in range(second)]
        pairs = {(p, q) for p in players for q in players
                 if ((p[0], q[0]) in won if p[0] != q[0] else (p[1], q[1]) in others)}
        return self.more((first * second, frozenset((players.index(p), players.index(q)) for p, q in pairs)))

    def without(self, k, i):
        self.has(k)
        self.player(k, i)
        players, won = self.leagues[k]
        refuse(players == 1, -22)
        names = [j for j in range(players) if j != i]
        return self.more((players - 1, frozenset((names.index(a), names.index(b)) for a, b in won if i not in (a, b))))

    def both(self, j, k):
        self.has(j, k)
        refuse(self.leagues[j][0] != self.leagues[k][0], -22)

    def sameTable(self, j, k):
        self.both(j, k)
        return [int(table_told(self.leagues[j]) == table_told(self.leagues[k]))]

    def differ(self, j, k):
        self.both(j, k)
        return [len(self.leagues[j][1] - self.leagues[k][1])]

    def alike(self, j, k):
        self.both(j, k)
        (players, won), (players, goal) = self.leagues[j], self.leagues[k]
        refuse(players > 6, -22)
        for way in permutations(range(players)):
            if all(((i, h) in goal) == ((way[i], way[h]) in won) for i, h in permutations(range(players), 2)):
                return [players] + list(way)
        raise Refused(-33)

    def undo(self):
        refuse(not self.before, -6)
        self.after.append(self.leagues)
        self.leagues = self.before.pop()
        return [len(self.before)]

    def redo(self):
        refuse(not self.after, -6)
        self.before.append(self.leagues)
        self.leagues = self.after.pop()
        return [len(self.after)]

    def state(self):
        return [len(self.leagues), len(self.before), len(self.after)] + [players for players, won in self.leagues]

    def start(self, k, n):
        refuse(not 1 <= n <= 7, -22)
        self.leagues[k] = by_number(n, 0)
        return [0]

    def games(self, k, m):
        self.number(k, m)
        self.leagues[k] = by_number(self.leagues[k][0], m)
        return [comb(self.leagues[k][0], 2)]

    def turn(self, k, i, j):
        self.two(k, i, j)
        self.leagues[k] = games_turned(self.leagues[k], [(i, j)])
        return [i if (i, j) in self.leagues[k][1] else j]

    def beats(self, k, i, j):
        self.player(k, i, j)
        return [int((i, j) in self.leagues[k][1])]

    def wins(self, k, i):
        self.player(k, i)
        return [table_told(self.leagues[k])[i]]

    def stage_state(self, k):
        return [self.leagues[k][0], to_number(self.leagues[k])]

    def one_row(self, k):
        row = []
        for i in range(self.leagues[k][0]):
            beaten = [place for place, j in enumerate(row) if (i, j) in self.leagues[k][1]]
            row = row[:beaten[0]] + [i] + row[beaten[0]:] if beaten else row + [i]
        return [len(row)] + row

    def one_rows(self, k):
        return [len(rows_told(self.leagues[k]))]

    def one_nth(self, k, place):
        refuse(place >= len(rows_told(self.leagues[k])), -33)
        return [self.leagues[k][0]] + rows_told(self.leagues[k])[place]

    def one_isRow(self, k, row):
        refuse(tuple(row) not in permutations(range(self.leagues[k][0])), -22)
        return [int(row in rows_told(self.leagues[k]))]

    def one_begins(self, k, i):
        self.player(k, i)
        return [sum(1 for row in rows_told(self.leagues[k]) if row[0] == i)]

    def one_between(self, k, i, j):
        self.two(k, i, j)
        return [sum(1 for row in rows_told(self.leagues[k]) if (row[0], row[-1]) == (i, j))]

    def one_comes(self, k, i, j):
        self.player(k, i, j)
        return [int(comes_told(self.leagues[k])[i, j])]

    def one_part(self, k, i):
        self.player(k, i)
        part = part_told(self.leagues[k], i)
        return [len(part)] + part

    def one_parts(self, k):
        parts = parts_told(self.leagues[k])
        return [len(parts)] + [number for part in parts for number in (part[0], len(part))]

    def one_strong(self, k):
        return [int(all(comes_told(self.leagues[k]).values()))]

    def one_rounds(self, k, i, length):
        self.player(k, i)
        refuse(not 3 <= length <= self.leagues[k][0], -22)
        return [len(rounds_told(self.leagues[k], i, length))]

    def one_round(self, k, i, length):
        refuse(self.one_rounds(k, i, length) == [0], -33)
        return [length] + rounds_told(self.leagues[k], i, length)[0]

    def two_table(self, k):
        return [self.leagues[k][0]] + table_told(self.leagues[k])

    def two_rank(self, k, i):
        self.player(k, i)
        table = table_told(self.leagues[k])
        return [sum(1 for wins in table if wins > table[i])]

    def two_can(self, k, table):
        refuse(not 1 <= len(table) <= 7, -22)
        return [int(all(beyond_told(table, p) >= 0 for p in range(len(table)))
                    and beyond_told(table, len(table)) == 0)]

    def two_beyond(self, k, place, table):
        refuse(not 1 <= len(table) <= 7 or place > len(table), -22)
        beyond = beyond_told(table, place)
        return [0, beyond, 0] if beyond >= 0 else [0, 0, -beyond]

    def two_make(self, k, table):
        refuse(len(table) != self.leagues[k][0] or len(table) > 5, -22)
        refuse(not numbers_with_table(tuple(table)), -33)
        number = min(numbers_with_table(tuple(table)))
        self.leagues[k] = by_number(len(table), number)
        return [number]

    def two_many(self, k, table):
        refuse(not 1 <= len(table) <= 5, -22)
        return [len(numbers_with_table(tuple(table)))]

    def two_threes(self, k):
        return [len(threes_told(self.leagues[k]))]

    def two_three(self, k, place):
        refuse(place >= len(threes_told(self.leagues[k])), -33)
        return threes_told(self.leagues[k])[place]

    def two_turnThree(self, k, place):
        a, b, c = self.two_three(k, place)
        self.leagues[k] = games_turned(self.leagues[k], [(a, b), (b, c), (c, a)])
        return [to_number(self.leagues[k])]

    def two_differ(self, k, m):
        self.number(k, m)
        return [bin(to_number(self.leagues[k]) ^ m).count("1")]

    def two_same(self, k, m):
        self.number(k, m)
        return [int(table_told(self.leagues[k]) == table_told(by_number(self.leagues[k][0], m)))]

    def two_turns(self, k, m):
        self.number(k, m)
        refuse(self.leagues[k][0] > 5, -28)
        return [turns_told(self.leagues[k], by_number(self.leagues[k][0], m))]

    def three_threes(self, k):
        return self.two_threes(k)

    def three_nth(self, k, place):
        return [3] + self.two_three(k, place)

    def three_of(self, k, i):
        self.player(k, i)
        return [sum(1 for three in threes_told(self.leagues[k]) if i in three)]

    def three_through(self, k, i, j):
        self.two(k, i, j)
        return [sum(1 for three in threes_told(self.leagues[k]) if {i, j} <= set(three))]

    def three_would(self, k, i, j):
        self.two(k, i, j)
        return [len(threes_told(games_turned(self.leagues[k], [(i, j)])))]

    def three_byWins(self, k, wins):
        refuse(not 1 <= len(wins) <= 30 or max(wins) > 30, -22)
        found = comb(len(wins), 3) - sum(comb(w, 2) for w in wins)
        refuse(found < 0, -33)
        return [found]


def reference(*calls):
    whole = Reference()
    return [whole.told(call) for call in calls]
