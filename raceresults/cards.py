"""Cards: which text is one, and the races and pools that it tells."""

from raceresults.refusals import NoCard
from raceresults.texts import bounded_or_none, decoded

MOST_RACES = 16
MOST_POOLS = 64
MOST_COUPLES = 8
LETTERS = "abcdefghijklmnopqrstuvwxyz"
KINDS = {"place": (1, 4), "order": (2, 4), "any": (2, 3), "legs": (2, 6)}
# In a pool's line every second word is set from the fifth on, so one slice compares them all.
MARKS = ("from", "take", "break", "least", "unit", "none")
NONES = ("refund", "carry", "fewer")


class Race:
    # Runners count from 1: heads[0] stands there only so that a runner is its own index.
    def __init__(self, runners):
        self.runners = runners
        self.heads = list(range(runners + 1))

    def interests(self):
        return [runner for runner in range(1, self.runners + 1) if self.heads[runner] == runner]

    def couple(self, a, b):
        self.heads[b] = a

    # Counting tells both: a couple's a stands among the heads more than once, its b not at all.
    def uncoupled(self, runner):
        return self.heads.count(runner) == 1


class Pool:
    # race is the number of its first race, which of all kinds but legs is its only one.
    def __init__(self, kind, k, race):
        self.kind = kind
        self.k = k
        self.race = race

    # Of a list with one thing for each of the card's races: those of the pool's own races.
    def own_part(self, listed):
        legs = self.k if self.kind == "legs" else 1
        return listed[self.race - 1:self.race - 1 + legs]


class Card:
    def __init__(self, races, pools):
        self.races = races
        self.pools = pools


def read_card(data):
    lines = decoded(data).split("\n")
    # The last line is ended too, so nothing may be left behind its end.
    if lines.pop() != "" or len(lines) == 0:
        raise NoCard()
    check_day(lines[0].split(" "))
    races = []
    pools = {}
    for line in lines[1:]:
        words = line.split(" ")
        if words[0] == "race" and len(pools) == 0:
            races.append(read_race(words))
        else:
            pool = read_pool(words, races)
            if words[1] in pools:
                raise NoCard()
            pools[words[1]] = pool
    if len(races) < 1 or len(races) > MOST_RACES or len(pools) > MOST_POOLS:
        raise NoCard()
    return Card(races, list(pools.values()))


def check_day(words):
    if len(words) != 2 or words[0] != "day":
        raise NoCard()
    check_name(words[1])


def check_name(word):
    if len(word) < 1 or len(word) > 12 or word[0] not in LETTERS:
        raise NoCard()
    for sign in word:
        if sign not in LETTERS and not sign.isdigit():
            raise NoCard()


def read_number(word, low, high):
    number = bounded_or_none(word, low, high)
    if number is None:
        raise NoCard()
    return number


def read_race(words):
    if len(words) % 3 != 2 or len(words) > 2 + 3 * MOST_COUPLES:
        raise NoCard()
    race = Race(read_number(words[1], 2, 24))
    for at in range(2, len(words), 3):
        read_couple(words[at:at + 3], race)
    return race


def read_couple(words, race):
    if words[0] != "couple":
        raise NoCard()
    a = read_number(words[1], 1, race.runners)
    b = read_number(words[2], 1, race.runners)
    if a >= b or race.heads[a] != a or not race.uncoupled(b):
        raise NoCard()
    race.couple(a, b)


def read_pool(words, races):
    if len(words) != 16 or words[0] != "pool" or words[4::2] != list(MARKS):
        raise NoCard()
    check_name(words[1])
    pool = read_kind(words[2], words[3], words[5], races)
    read_number(words[7], 0, 400)
    read_number(words[9], 1, 1000)
    check_least(words[11], words[13])
    if words[15] not in NONES or (words[15] == "fewer" and words[2] == "place"):
        raise NoCard()
    return pool


def read_kind(kind, length, first, races):
    if kind not in KINDS:
        raise NoCard()
    k = read_number(length, KINDS[kind][0], KINDS[kind][1])
    race = read_number(first, 1, len(races))
    if kind == "legs":
        if race + k - 1 > len(races):
            raise NoCard()
    elif len(races[race - 1].interests()) < k:
        raise NoCard()
    return Pool(kind, k, race)


def check_least(least_word, unit_word):
    unit = read_number(unit_word, 1, 10000)
    least = read_number(least_word, 0, 2 * unit)
    if least > 0 and least < unit:
        raise NoCard()
