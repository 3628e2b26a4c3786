"""right, promise E2: small races by chance, every combination held against another working of the document.

Here every row that an arrival may be is written out, and a combination is laid beside each of them.
"""

import itertools
import random
import unittest

from fields import Field
from raceresults.results import right
from support import as_bytes, card_of, result_of, rows_of


def place_right(k, head, field):
    group = field.group(head)
    lower = [other for other in field.interests if field.group(other) is not None and group is not None
             and field.group(other) < group]
    return 1 if group is not None and len(lower) < k else 0


def order_right(row, rows):
    return max(j for j in range(len(row) + 1) for each in rows if each[:j] == row[:j])


def any_right(row, rows):
    firsts = {frozenset(each[:j]) for each in rows for j in range(len(row) + 1) if j <= len(each)}
    return max(j for j in range(len(row) + 1) for some in itertools.combinations(row, j) if frozenset(some) in firsts)


class Swept(unittest.TestCase):
    def check(self, kind, k, fields, expected):
        races = [field.race for field in fields]
        arrivals = [field.arrival() for field in fields]
        card, result = as_bytes(card_of(kind, k, races)), as_bytes(result_of(arrivals))
        rows = rows_of(kind, k, races)
        met = {}
        for number, row in enumerate(rows):
            told = expected(row)
            self.assertEqual(right(0, number, card, result), [0, told], (kind, k, races, arrivals, row))
            met[told] = True
        self.assertEqual(right(0, len(rows), card, result), [-1])
        return met

    def one_race(self, kind, highest, seed, rate):
        chance = random.Random(seed)
        met = {}
        for turn in range(120):
            field = Field(chance, 6)
            arrivals = field.rows()
            k = chance.randrange(1 if kind == "place" else 2, highest + 1)
            if k <= len(field.interests):
                def expected(row):
                    if field.void or any(field.is_out(head) for head in row):
                        return 100
                    return rate(k, row, field, arrivals)
                met.update(self.check(kind, k, [field], expected))
        return sorted(met)

    def test_place(self):
        met = self.one_race("place", 4, 11, lambda k, row, field, arrivals: place_right(k, row[0], field))
        self.assertEqual(met, [0, 1, 100])

    def test_order(self):
        met = self.one_race("order", 4, 12, lambda k, row, field, arrivals: order_right(row, arrivals))
        self.assertEqual(met, [0, 1, 2, 3, 4, 100])

    def test_any(self):
        met = self.one_race("any", 3, 13, lambda k, row, field, arrivals: any_right(row, arrivals))
        self.assertEqual(met, [0, 1, 2, 3, 100])

    def test_legs(self):
        chance = random.Random(14)
        met = {}
        for turn in range(60):
            fields = [Field(chance, 5) for leg in range(chance.choice((2, 2, 3, 3, 4)))]

            def expected(row):
                legs = list(zip(row, fields))
                if any(field.is_out(head) for head, field in legs):
                    return 100
                return sum(1 for head, field in legs if field.void or field.group(head) == 0)
            met.update(self.check("legs", len(fields), fields, expected))
        self.assertEqual(sorted(met), [0, 1, 2, 3, 4, 100])
