"""What the tests share: texts as lists of bytes, and cards to start from."""

import itertools

CARD = (
    "day ascot\n"
    "race 8 couple 1 2 couple 1 3 couple 5 8\n"
    "race 4\n"
    "race 12 couple 2 11\n"
    "race 2\n"
    "race 24 couple 1 2 couple 3 4 couple 5 6 couple 7 8 couple 9 10 couple 11 12 couple 13 14 couple 23 24\n"
    "race 6\n"
    "pool win place 1 from 1 take 150 break 10 least 0 unit 100 none refund\n"
    "pool show place 3 from 1 take 200 break 5 least 100 unit 100 none carry\n"
    "pool exacta order 2 from 2 take 0 break 1 least 1 unit 1 none fewer\n"
    "pool first4 order 4 from 3 take 400 break 1000 least 20000 unit 10000 none carry\n"
    "pool quinella any 2 from 4 take 220 break 10 least 150 unit 100 none refund\n"
    "pool trio any 3 from 5 take 220 break 10 least 200 unit 100 none fewer\n"
    "pool double legs 2 from 5 take 180 break 10 least 0 unit 50 none carry\n"
    "pool jackpot legs 6 from 1 take 250 break 10 least 0 unit 1 none fewer\n"
)

NO_CARD = "day d\n"
HIGHEST = 4294967295

POOL = "pool p place 1 from 1 take 150 break 10 least 0 unit 100 none refund\n"


def as_bytes(text):
    return [ord(sign) for sign in text]


def heads_of(race):
    words = race.split(" ")
    return [runner for runner in range(1, int(words[0]) + 1) if str(runner) not in words[3::3]]


# All combinations of a pool over races, told by their words behind "race", in the order of the rows.
def rows_of(kind, k, races):
    heads = heads_of(races[0])
    if kind == "order":
        return sorted(itertools.permutations(heads, k))
    if kind == "any":
        return sorted(tuple(sorted(row)) for row in itertools.combinations(heads, k))
    return sorted(itertools.product(*[heads_of(race) for race in races]))


def card_of(kind, k, races, first=1):
    pool = f"pool p {kind} {k} from {first} take 150 break 10 least 0 unit 100 none carry\n"
    return "day d\n" + "".join(f"race {race}\n" for race in races) + pool


# An arrival is told by the words behind "came", or is "void", or None of an open race.
def result_of(arrivals):
    lines = ""
    for number, arrival in enumerate(arrivals, start=1):
        if arrival is not None:
            lines += f"race {number} " + ("void\n" if arrival == "void" else f"came {arrival}\n")
    return lines
