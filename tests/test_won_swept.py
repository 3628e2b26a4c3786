"""won, promise E2: races by chance, held against another working of the document and against what right answers.

Here every row that an arrival may be is written out, and what stands first in one of them has won.
"""

import random
import unittest

from fields import Field
from raceresults.results import right, won
from support import HIGHEST, as_bytes, card_of, heads_of, result_of, rows_of


def places_won(k, field):
    groups = {head: field.group(head) for head in field.interests}
    come = [head for head in groups if groups[head] is not None]
    return [(head,) for head in come if sum(1 for other in come if groups[other] < groups[head]) < k]


def orders_won(k, field):
    return [row[:k] for row in field.rows() if len(row) >= k]


def any_won(k, field):
    return [tuple(sorted(row)) for row in orders_won(k, field)]


WON = {"place": places_won, "order": orders_won, "any": any_won}


class Swept(unittest.TestCase):
    # What won names, one by one, until there's none.
    def named(self, card, result):
        numbers = []
        answer = won(0, 0, card, result)
        while len(answer) == 2:
            self.assertEqual(answer[0], 0)
            numbers.append(answer[1])
            answer = won(0, len(numbers), card, result)
        for i in (len(numbers), len(numbers) + 1, HIGHEST):
            self.assertEqual(won(0, i, card, result), [-4])
        return numbers

    # winners: the rows that have won, in whatever order and as often as you like.
    def check(self, kind, k, fields, winners):
        races = [field.race for field in fields]
        arrivals = [field.arrival() for field in fields]
        card, result = as_bytes(card_of(kind, k, races)), as_bytes(result_of(arrivals))
        rows = rows_of(kind, k, races)
        numbers = self.named(card, result)
        self.assertEqual([rows[number] for number in numbers], sorted(set(winners)), (kind, k, races, arrivals))
        full = 1 if kind == "place" else k
        told_right = [number for number in range(len(rows)) if right(0, number, card, result) == [0, full]]
        self.assertEqual(numbers, told_right, (kind, k, races, arrivals))
        return len(numbers)

    def one_race(self, kind, highest, seed):
        chance = random.Random(seed)
        counts = {}
        for turn in range(150):
            field = Field(chance, 6)
            k = chance.randrange(1 if kind == "place" else 2, highest + 1)
            if k <= len(field.interests):
                winners = [] if field.void else WON[kind](k, field)
                counts[self.check(kind, k, [field], winners)] = True
        # None, one and several have won, so that each case was met.
        self.assertLessEqual({0, 1, 2, 3}, set(counts))

    def test_place(self):
        self.one_race("place", 4, 21)

    def test_order(self):
        self.one_race("order", 4, 22)

    def test_any(self):
        self.one_race("any", 3, 23)

    def test_legs(self):
        chance = random.Random(24)
        counts = {}
        for turn in range(80):
            fields = [Field(chance, 5) for leg in range(chance.choice((2, 2, 3, 3, 4)))]
            winners = [()]
            for field in fields:
                heads = [head for head in field.interests if field.void or field.group(head) == 0]
                winners = [row + (head,) for row in winners for head in heads]
            counts[self.check("legs", len(fields), fields, winners)] = True
        self.assertLessEqual({1, 2, 4}, set(counts))


class AgainstRight(unittest.TestCase):
    """Races of more runners than all of whose arrivals could be written out."""

    RACE = "10 couple 1 4 couple 3 7"
    ARRIVALS = ("5 2 8 1 3 4 6 7 9 10", "5 2=8 1=3=9 10", "1=2=3=4=5=6=7=8=9=10", "9", "7=10", "10 1=2=6 out 3,5",
                "2=9 6 4 out 3,7,8", "4 out 1,2,3,5,6,7,8,9,10", "4 3 out 2,5,6,8,9,10", "6 3=7 1=4 10", "void")

    def check(self, kind, k, races, arrivals):
        card, result = as_bytes(card_of(kind, k, races)), as_bytes(result_of(arrivals))
        full = 1 if kind == "place" else k
        rows = len(rows_of(kind, k, races))
        told_right = [number for number in range(rows) if right(0, number, card, result) == [0, full]]
        with self.subTest(kind=kind, k=k, races=races, arrivals=arrivals):
            told = [won(0, i, card, result) for i in range(len(told_right) + 1)]
            self.assertEqual(told, [[0, number] for number in told_right] + [[-4]])

    def test_each_kind_and_k(self):
        for arrival in self.ARRIVALS:
            for kind, ks in (("place", (1, 2, 3, 4)), ("order", (2, 3, 4)), ("any", (2, 3))):
                for k in ks:
                    self.check(kind, k, [self.RACE], [arrival])

    def test_legs(self):
        for first in self.ARRIVALS:
            for second in self.ARRIVALS[::3]:
                self.check("legs", 2, [self.RACE, "10"], [first, second])
            self.check("legs", 3, [self.RACE, "3", self.RACE], [first, "1=3", "void"])

    def test_couples_are_told_by_their_heads(self):
        self.assertEqual(heads_of(self.RACE), [1, 2, 3, 5, 6, 8, 9, 10])
