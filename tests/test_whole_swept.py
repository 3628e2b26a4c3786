"""The whole program: of pools and races by chance, what right, won and refunds answer is the same story.

Of a pool that's told the numbers that won names are just those that are right in full, and refunds counts just
those that are refunded; which these are is worked out here by itself, from each race's own runners.
"""

import random
import unittest

from fields import Field
from raceresults.results import came, judge, refunds, right, told, won
from support import as_bytes, result_of, rows_of

LINE = "pool p{} {} {} from {} take 150 break 10 least 0 unit 100 none carry\n"
MOST_K = {"place": 4, "order": 4, "any": 3, "legs": 4}


class Whole(unittest.TestCase):
    def setUp(self):
        self.chance = random.Random(31)
        self.met = {}

    def pool(self, fields):
        kind = self.chance.choice(list(MOST_K))
        k = self.chance.randrange(1 if kind == "place" else 2, MOST_K[kind] + 1)
        first = self.chance.randrange(len(fields))
        last = first + (k if kind == "legs" else 1)
        enough = kind == "legs" or k <= len(fields[first].interests)
        return (kind, k, first, last) if last <= len(fields) and enough else self.pool(fields)

    def refunded(self, kind, row, fields):
        if kind == "legs":
            return any(field.is_out(head) for head, field in zip(row, fields))
        return fields[0].void or any(fields[0].is_out(head) for head in row)

    def check_pool(self, number, pool, fields, is_open, card, result):
        kind, k, first, last = pool
        if any(is_open[first:last]):
            self.assertEqual(told(number, card, result), [0, 0])
            self.assertEqual([right(number, 0, card, result), won(number, 0, card, result)], [[-3], [-3]])
            self.assertEqual(refunds(number, card, result), [-3])
            return
        self.assertEqual(told(number, card, result), [0, 1])
        rows = rows_of(kind, k, [field.race for field in fields[first:last]])
        answers = [right(number, at, card, result) for at in range(len(rows))]
        self.assertEqual(right(number, len(rows), card, result), [-1])
        out = [self.refunded(kind, row, fields[first:last]) for row in rows]
        self.assertEqual([answer == [0, 100] for answer in answers], out)
        self.assertEqual(refunds(number, card, result), [0, sum(out)])
        full = [at for at in range(len(rows)) if answers[at] == [0, 1 if kind == "place" else k]]
        named = [won(number, i, card, result) for i in range(len(full) + 1)]
        self.assertEqual(named, [[0, at] for at in full] + [[-4]])
        self.met[kind, k, min(len(full), 2), 0 < sum(out) < len(rows), sum(out) == len(rows)] = True

    def check_day(self, fields, pools):
        is_open = [self.chance.randrange(8) == 0 for field in fields]
        text = "day d\n" + "".join(f"race {field.race}\n" for field in fields)
        for number, (kind, k, first, last) in enumerate(pools):
            text += LINE.format(number, kind, k, first + 1)
        arrivals = [None if still else field.arrival() for field, still in zip(fields, is_open)]
        card, result = as_bytes(text), as_bytes(result_of(arrivals))
        self.assertEqual(judge(card, result), [0])
        for number, (field, still) in enumerate(zip(fields, is_open), start=1):
            self.assertEqual(came(number, card, result)[:2], [0, 0 if still else 2 if field.void else 1])
        for number, pool in enumerate(pools):
            with self.subTest(card=text, result=result_of(arrivals), pool=number):
                self.check_pool(number, pool, fields, is_open, card, result)

    def check_met(self, kind, k):
        # Several have won, and none and some are refunded; of one race that's void, all are.
        self.assertIn((kind, k, 2, False, False), self.met)
        self.assertIn((kind, k, 2, True, False), self.met)
        if kind != "legs":
            self.assertIn((kind, k, 0, False, True), self.met)

    def test_days(self):
        for turn in range(400):
            fields = [Field(self.chance, 6) for race in range(self.chance.randrange(1, 6))]
            self.check_day(fields, [self.pool(fields) for each in range(3)])
        for kind in MOST_K:
            for k in range(1 if kind == "place" else 2, MOST_K[kind] + 1):
                self.check_met(kind, k)

    def test_many_legs(self):
        for turn in range(30):
            fields = [Field(self.chance, 3) for race in range(7)]
            self.check_day(fields, [("legs", 5, 1, 6), ("legs", 6, 0, 6), ("legs", 6, 1, 7)])
        for k in (5, 6):
            self.check_met("legs", k)
