"""The calls: what is answered of a card and a result."""

from raceresults.arrivals import CAME, OPEN, read_result
from raceresults.cards import read_card
from raceresults.classes import classes_of
from raceresults.combinations import row_with_number
from raceresults.refunding import count_refunded
from raceresults.refusals import Faulty, NoPool, NoRace, NotTold, Refusal, TooLong
from raceresults.rightness import rightness
from raceresults.texts import LONGEST
from raceresults.winners import winning_number


class Day:
    def __init__(self, races, pools, arrivals):
        self.races = races
        self.pools = pools
        self.arrivals = arrivals


def read_day(card, result):
    if len(card) > LONGEST or len(result) > LONGEST:
        raise TooLong()
    read = read_card(card)
    return Day(read.races, read.pools, read_result(result, read.races))


def judge(card, result):
    try:
        read_day(card, result)
    except Faulty as e:
        return [-6, e.kind, e.place]
    except Refusal as e:
        return [e.code]
    return [0]


def came(race, card, result):
    try:
        return [0] + arrival_row(read_day(card, result), race)
    except Refusal as e:
        return [e.code]


def arrival_row(day, number):
    if number < 1 or number > len(day.races):
        raise NoRace()
    arrival = day.arrivals[number - 1]
    if arrival.state != CAME:
        return [arrival.state]
    classes = classes_of(day.races[number - 1], arrival)
    row = [arrival.state, len(classes)]
    for heads in classes:
        row.append(len(heads))
        row.extend(heads)
    return row


def told(pool, card, result):
    try:
        day = read_day(card, result)
        return [0, 1 if is_told(day, find_pool(day, pool)) else 0]
    except Refusal as e:
        return [e.code]


def find_pool(day, number):
    if number >= len(day.pools):
        raise NoPool()
    return day.pools[number]


def is_told(day, pool):
    return all([arrival.state != OPEN for arrival in pool.own_part(day.arrivals)])


def right(pool, number, card, result):
    try:
        day = read_day(card, result)
        return [0, rightness_of(day, find_pool(day, pool), number)]
    except Refusal as e:
        return [e.code]


def rightness_of(day, pool, number):
    races = pool.own_part(day.races)
    row = row_with_number(pool, races, number)
    if not is_told(day, pool):
        raise NotTold()
    return rightness(pool, row, races, pool.own_part(day.arrivals))


def won(pool, i, card, result):
    try:
        day = read_day(card, result)
        return [0, number_won(day, find_told_pool(day, pool), i)]
    except Refusal as e:
        return [e.code]


def find_told_pool(day, number):
    pool = find_pool(day, number)
    if not is_told(day, pool):
        raise NotTold()
    return pool


def number_won(day, pool, i):
    return winning_number(pool, pool.own_part(day.races), pool.own_part(day.arrivals), i)


def refunds(pool, card, result):
    try:
        day = read_day(card, result)
        return [0, number_refunded(day, find_told_pool(day, pool))]
    except Refusal as e:
        return [e.code]


def number_refunded(day, pool):
    return count_refunded(pool, pool.own_part(day.races), pool.own_part(day.arrivals))
