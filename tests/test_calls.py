"""Every call: the order of its answers, that nothing handed in is changed, and that nothing is kept."""

import itertools
import unittest

from raceresults.results import came, judge, refunds, right, told, won
from support import CARD, HIGHEST, NO_CARD, as_bytes, card_of

# Each call is asked with two numbers, of which it takes as many as it has.
CALLS = {
    "judge": lambda first, second, card, result: judge(card, result),
    "came": lambda first, second, card, result: came(first, card, result),
    "told": lambda first, second, card, result: told(first, card, result),
    "right": lambda first, second, card, result: right(first, second, card, result),
    "won": lambda first, second, card, result: won(first, second, card, result),
    "refunds": lambda first, second, card, result: refunds(first, card, result),
}
OF_POOLS = [name for name in CALLS if name not in ("judge", "came")]
OF_TOLD_POOLS = [name for name in OF_POOLS if name != "told"]

NUMBERS = list(itertools.product((0, 1, 7, 8, 64, 65536, HIGHEST), (0, 1, HIGHEST)))
NO_CARDS = ("", NO_CARD, CARD[:-1], CARD + "\n", "x")
FAULTS = ("race 1", "\n", "rice 1 void\n", "race 7 void\n", "race 1 came 1=1\n", "race 1 void\nx",
          "race 1 came 1\nrace 2 came 5\n")
VOIDS = "".join(f"race {race} void\n" for race in range(1, 7))
CAME = "".join(f"race {race} came 1=2\n" for race in range(1, 7))
RIGHT_RESULTS = ("", "race 1 came 1\n", "race 1 void\nrace 5 came 3 1=2 out 4\n", VOIDS, CAME)


class Called(unittest.TestCase):
    def each(self, names, numbers, card, result, expected):
        for name in names:
            for first, second in numbers:
                answer = CALLS[name](first, second, card, result)
                told_there = answer[:1] if name == "judge" else answer
                self.assertEqual(told_there, expected, (name, first, second))

    def texts(self, names, numbers, card, result, expected):
        with self.subTest(card=card, result=result):
            self.each(names, numbers, as_bytes(card), as_bytes(result), expected)


class Order(Called):
    def test_too_long_goes_first(self):
        for length in (65537, 66000):
            for byte in (10, 120):
                long = [byte] * length
                for other in (*NO_CARDS, CARD, *FAULTS[:2]):
                    self.each(CALLS, NUMBERS[:3] + NUMBERS[-3:], as_bytes(other), long, [-2])
                    self.each(CALLS, NUMBERS[:3] + NUMBERS[-3:], long, as_bytes(other), [-2])
                self.each(CALLS, NUMBERS, long, long, [-2])

    def test_longest_that_is_read(self):
        self.each(CALLS, NUMBERS[:3] + NUMBERS[-3:], [10] * 65536, [], [-8])
        self.each(CALLS, NUMBERS[:3] + NUMBERS[-3:], as_bytes(CARD), [10] * 65536, [-6])
        self.each(CALLS, NUMBERS[:3] + NUMBERS[-3:], as_bytes(CARD), [120] * 65536, [-6])

    def test_no_card_goes_before_what_follows(self):
        for card in NO_CARDS:
            for result in FAULTS + RIGHT_RESULTS:
                self.texts(CALLS, NUMBERS, card, result, [-8])

    def test_fault_goes_before_what_follows(self):
        for result in FAULTS:
            self.texts(CALLS, NUMBERS, CARD, result, [-6])

    def test_no_such_pool_goes_before_what_follows(self):
        numbers = list(itertools.product((8, 9, 63, 64, 65536, HIGHEST), (0, 1, HIGHEST)))
        for result in RIGHT_RESULTS:
            self.texts(OF_POOLS, numbers, CARD, result, [-4])
        for result in ("", "race 1 void\n", "race 1 came 2\n"):
            self.texts(OF_POOLS, NUMBERS, "day d\nrace 2\n", result, [-4])

    def test_no_such_race(self):
        numbers = [(race, 0) for race in (0, 7, 17, 65536, HIGHEST)]
        for result in RIGHT_RESULTS:
            self.texts(["came"], numbers, CARD, result, [-1])

    def test_not_told_goes_before_what_follows(self):
        pools = [(pool, 0) for pool in range(8)]
        self.texts(OF_TOLD_POOLS, pools, CARD, "", [-3])
        lines = VOIDS.splitlines(keepends=True)
        for race in range(6):
            self.texts(OF_TOLD_POOLS, [(7, 0)], CARD, "".join(lines[:race] + lines[race + 1:]), [-3])
        for result in ("race 5 void\n", "race 6 void\n", "race 5 came 3 out 1,2\n", "race 6 came 1 out 2,3,4,5,6\n"):
            self.texts(OF_TOLD_POOLS, [(6, 0)], CARD, result, [-3])


class Handed(Called):
    def test_nothing_is_changed_or_kept(self):
        other_card, other_result = as_bytes(card_of("order", 2, ["3"])), as_bytes("race 1 came 2 out 1\n")
        for name, card, result in itertools.product(CALLS, (CARD, NO_CARD), RIGHT_RESULTS + FAULTS[:3]):
            for first, second in itertools.product((0, 2, 3, 5, 7, 8), (0, 4, HIGHEST)):
                card_bytes, result_bytes = as_bytes(card), as_bytes(result)
                answer = CALLS[name](first, second, card_bytes, result_bytes)
                self.assertEqual((card_bytes, result_bytes), (as_bytes(card), as_bytes(result)), name)
                again = list(answer)
                answer.append(7)
                for other in CALLS.values():
                    other(0, 1, other_card, other_result)
                self.assertEqual(CALLS[name](first, second, card_bytes, result_bytes), again, name)

    def test_what_is_too_long_is_not_changed(self):
        for name in CALLS:
            card, result = [120] * 65537, as_bytes(CAME)
            CALLS[name](0, 0, card, result)
            self.assertEqual((card, result), ([120] * 65537, as_bytes(CAME)), name)

    def test_kinds(self):
        for name, card, result in itertools.product(CALLS, (CARD, NO_CARD), RIGHT_RESULTS + FAULTS[:3]):
            for first, second in itertools.product(range(9), (0, 1, HIGHEST)):
                answer = CALLS[name](first, second, as_bytes(card), as_bytes(result))
                self.assertIs(type(answer), list)
                self.assertTrue(all(type(number) is int for number in answer), (name, answer))
                self.assertTrue(answer[0] == 0 or len(answer) == (3 if answer[0] == -6 and name == "judge" else 1))
