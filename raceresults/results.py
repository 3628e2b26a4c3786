"""The calls: what is answered of a card and a result."""

from raceresults.arrivals import read_result
from raceresults.cards import read_card
from raceresults.refusals import Faulty, Refusal, TooLong
from raceresults.texts import LONGEST


class Day:
    def __init__(self, races, arrivals):
        self.races = races
        self.arrivals = arrivals


def read_day(card, result):
    if len(card) > LONGEST or len(result) > LONGEST:
        raise TooLong()
    races = read_card(card)
    return Day(races, read_result(result, races))


def judge(card, result):
    try:
        read_day(card, result)
    except Faulty as e:
        return [-6, e.kind, e.place]
    except Refusal as e:
        return [e.code]
    return [0]
