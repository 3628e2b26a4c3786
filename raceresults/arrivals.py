"""Results: which text is one of a card's races, how each of these came in, and a text's first fault."""

from raceresults.refusals import Faulty
from raceresults.texts import bounded_or_none, decoded

# These numbers are answered as they stand.
OPEN = 0
CAME = 1
VOID = 2


class Arrival:
    def __init__(self, state, groups, out):
        self.state = state
        self.groups = groups
        self.out = out


class Word:
    def __init__(self, text, place):
        self.text = text
        self.place = place


def read_result(data, races):
    text = decoded(data)
    arrivals = [Arrival(OPEN, [], []) for race in races]
    above = 0
    start = 0
    while start < len(text):
        end = text.find("\n", start)
        if end < 0:
            raise Faulty(1, len(text))
        check_signs(data, start, end)
        words = split_line(text[start:end], start)
        number = read_race_number(words, above, len(races))
        arrivals[number - 1] = read_arrival(words[2:], races[number - 1].runners)
        above = number
        start = end + 1
    return arrivals


def check_signs(data, start, end):
    if start == end:
        raise Faulty(2, end)
    for place in range(start, end):
        if data[place] < 32 or data[place] > 126:
            raise Faulty(2, place)
        if data[place] == 32 and (place == start or place == end - 1 or data[place - 1] == 32):
            raise Faulty(2, place)


def split_line(line, start):
    words = []
    place = start
    for text in line.split(" "):
        words.append(Word(text, place))
        place += len(text) + 1
    # The line's end counts as an empty word, so that a missing word has a place too.
    words.append(Word("", place - 1))
    return words


def check_there(word):
    if word.text == "":
        raise Faulty(3, word.place)


def check_ended(word):
    if word.text != "":
        raise Faulty(3, word.place)


def read_race_number(words, above, highest):
    if words[0].text != "race":
        raise Faulty(3, words[0].place)
    check_there(words[1])
    number = bounded_or_none(words[1].text, 1, highest)
    if number is None or number <= above:
        raise Faulty(4, words[1].place)
    return number


def read_arrival(words, runners):
    if words[0].text == "void":
        check_ended(words[1])
        return Arrival(VOID, [], [])
    if words[0].text == "came":
        return read_came(words[1:], runners)
    raise Faulty(3, words[0].place)


def read_came(words, runners):
    check_there(words[0])
    met = {}
    groups = [read_runners(words[0], "=", runners, met)]
    at = 1
    while words[at].text not in ("", "out"):
        groups.append(read_runners(words[at], "=", runners, met))
        at += 1
    out = []
    if words[at].text == "out":
        check_there(words[at + 1])
        out = read_runners(words[at + 1], ",", runners, met)
        at += 2
    check_ended(words[at])
    return Arrival(CAME, groups, out)


# met holds the runners of the whole line, since none may stand in it twice, in whatever group or set.
def read_runners(word, sign, runners, met):
    listed = []
    lowest = 1
    for part in word.text.split(sign):
        runner = bounded_or_none(part, lowest, runners)
        if runner is None or runner in met:
            raise Faulty(4, word.place)
        met[runner] = True
        listed.append(runner)
        lowest = runner + 1
    return listed
