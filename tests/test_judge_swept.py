"""judge, promise E1: texts with one byte or two gone wrong, held against another reading of the document.

Here a line is asked as a whole whether it's right; a word is the faulty one if no words behind it
could make a right line of those up to it.
"""

import random
import re
import unittest

from raceresults.results import judge
from support import as_bytes

RUNNERS = (8, 12, 7)
SWEPT_CARD = "day d\n" + "".join(f"race {runners}\n" for runners in RUNNERS)
RESULT = "race 1 came 3 1=2 out 4,5\nrace 2 void\nrace 3 came 1=6 2\n"
SIGNS = "\n 0123456=,rout\x7fx"
RIGHT_LINE = re.compile(r"race ([1-9][0-9]*) (?:void|came ([0-9= ]+?)(?: out ([0-9,]+))?)")
RUNNER = re.compile(r"[1-9][0-9]*")
BAD_SIGN = re.compile(r"[^ -~]|^ |(?<= ) | $")


def rising(word, sign):
    parts = word.split(sign)
    if not all(RUNNER.fullmatch(part) for part in parts):
        return False
    numbers = [int(part) for part in parts]
    return numbers == sorted(set(numbers))


def right_line(line, above):
    found = RIGHT_LINE.fullmatch(line)
    if not found or not above < int(found[1]) <= len(RUNNERS):
        return False
    if not found[2]:
        return True
    words = found[2].split(" ")
    if not all(rising(word, "=") for word in words) or not rising(found[3] or "1", ","):
        return False
    numbers = [int(number) for number in re.findall("[0-9]+", found[2] + " " + (found[3] or ""))]
    return len(numbers) == len(set(numbers)) and max(numbers) <= RUNNERS[int(found[1]) - 1]


def tails():
    numbers = [str(number) for number in range(1, max(RUNNERS) + 1)]
    found = [[], ["void"]]
    for number in numbers:
        found += [[number], [number, "void"], ["came", number], ["out", number]]
    return found


TAILS = tails()


def could_stand(words, above):
    return any(right_line(" ".join(words + tail), above) for tail in TAILS)


def kind_of(words, at):
    if at == 2 or words[2:3] == ["void"] and at > 2:
        return 3
    return 3 if "out" in words[4:at - 1] else 4


def fault_in_words(line, above):
    words = line.split(" ")
    if words[0] != "race":
        return [3, 0]
    place = len("race ")
    # The first word is right behind the last race too, where no line could be.
    for at in range(1, len(words)):
        if not could_stand(words[:at + 1], above):
            return [kind_of(words, at), place]
        place += len(words[at]) + 1
    return [3, len(line)]


def expected(text):
    start = 0
    above = 0
    while start < len(text):
        end = text.find("\n", start)
        if end < 0:
            return [-6, 1, len(text)]
        line = text[start:end]
        bad = BAD_SIGN.search(line)
        if not line or bad:
            return [-6, 2, start + (bad.start() if bad else 0)]
        if not right_line(line, above):
            kind, place = fault_in_words(line, above)
            return [-6, kind, start + place]
        above = int(line.split(" ")[1])
        start = end + 1
    return [0]


def spoilt(text, at, sign):
    return (text[:at] + text[at + 1:], text[:at] + sign + text[at:], text[:at] + sign + text[at + 1:])


class Swept(unittest.TestCase):
    def check(self, text):
        answer = judge(as_bytes(SWEPT_CARD), as_bytes(text))
        self.assertEqual(answer, expected(text), text)
        return answer[1] if len(answer) > 1 else 0

    def test_one_byte(self):
        kinds = {}
        for at in range(len(RESULT)):
            for sign in SIGNS:
                for text in spoilt(RESULT, at, sign):
                    kinds[self.check(text)] = True
        self.assertEqual(sorted(kinds), [0, 1, 2, 3, 4])

    def test_two_bytes(self):
        chance = random.Random(1)
        for turn in range(3000):
            text = RESULT
            for edit in range(2):
                text = chance.choice(spoilt(text, chance.randrange(len(text)), chance.choice(SIGNS)))
            self.check(text)

    def test_words_in_any_order(self):
        chance = random.Random(2)
        words = ("race", "1", "2", "void", "came", "out", "3=4", "5,6", "1=2", "x")
        for turn in range(3000):
            line = [chance.choice(words) for at in range(chance.randrange(1, 7))]
            if chance.randrange(4):
                line = ["race", "1", "came"] + line
            self.check("race 1 void\n" * chance.randrange(2) + " ".join(line) + "\n")

    def test_cut_anywhere(self):
        for length in range(len(RESULT)):
            self.check(RESULT[:length])
            self.check(RESULT[:length] + "\n")
