"""won: large races and pools, and when none is there."""

import unittest

from raceresults.results import won
from support import CARD, HIGHEST, as_bytes, card_of, result_of, rows_of

ALL = "=".join(str(runner) for runner in range(1, 25))


class Large(unittest.TestCase):
    # told: of some i the number that's won; last: how many have won.
    def names(self, kind, k, races, arrivals, told, last):
        card, result = as_bytes(card_of(kind, k, races)), as_bytes(result_of(arrivals))
        for i in told:
            with self.subTest(kind=kind, k=k, arrivals=arrivals, i=i):
                self.assertEqual(won(0, i, card, result), [0, told[i]])
        for i in (last, last + 1, HIGHEST):
            with self.subTest(kind=kind, k=k, arrivals=arrivals, i=i):
                self.assertEqual(won(0, i, card, result), [-4])
        self.assertEqual(len(won(0, last - 1, card, result)), 2)


class OneRace(Large):
    RACE = "24 couple 1 2 couple 3 4"

    def test_place(self):
        self.names("place", 1, ["24"], ["24"], {0: 23}, 1)
        self.names("place", 4, ["24"], [ALL], {i: i for i in range(24)}, 24)
        self.names("place", 4, [self.RACE], ["24 4 2 10"], {0: 0, 1: 1, 2: 7, 3: 21}, 4)

    def test_order_of_which_all_have_won(self):
        count = 24 * 23 * 22 * 21
        numbers = (0, 1, 20, 21, 10625, 10626, 100000, 200001, count - 2, count - 1)
        self.names("order", 4, ["24"], [ALL], {i: i for i in numbers}, count)

    def test_order_of_which_some_have_won(self):
        rows = rows_of("order", 4, [self.RACE])
        numbers = {row: number for number, row in enumerate(rows)}
        winners = [row for row in rows if row[0] == 7]
        told = {i: numbers[winners[i]] for i in range(0, len(winners), 97)}
        self.names("order", 4, [self.RACE], ["7"], told, len(winners))
        winners = [row for row in rows if set(row[:2]) == {3, 24} and row[2] in (5, 6, 20) and row[3] in (5, 6, 20)]
        told = {i: numbers[winners[i]] for i in range(len(winners))}
        self.names("order", 4, [self.RACE], ["4=24 5=6=20 8"], told, 12)

    def test_any(self):
        self.names("any", 3, ["24"], [ALL], {i: i for i in range(0, 2024, 7)}, 2024)
        rows = rows_of("any", 3, [self.RACE])
        winners = [row for row in rows if 7 in row]
        told = {i: rows.index(winners[i]) for i in range(len(winners))}
        self.names("any", 3, [self.RACE], ["7"], told, len(winners))


class Legs(Large):
    def number(self, row):
        number = 0
        for head in row:
            number = number * 24 + head - 1
        return number

    def test_all_void(self):
        count = 24 ** 6
        numbers = (0, 1, 23, 24, 575, 576, 123456789, count // 2, count - 2, count - 1)
        self.names("legs", 6, ["24"] * 6, ["void"] * 6, {i: i for i in numbers}, count)

    def test_all_in_one_dead_heat(self):
        count = 24 ** 6
        self.names("legs", 6, ["24"] * 6, [ALL] * 6, {i: i for i in (0, 1, 99999999, count - 1)}, count)

    def test_one_has_won(self):
        row = (7, 1, 24, 13, 2, 9)
        self.names("legs", 6, ["24"] * 6, [str(head) for head in row], {0: self.number(row)}, 1)
        self.names("legs", 6, ["24"] * 6, ["24"] * 6, {0: 24 ** 6 - 1}, 1)
        self.names("legs", 6, ["24"] * 6, ["1"] * 6, {0: 0}, 1)

    def test_void_legs_among_them(self):
        arrivals = ["7", "void", "1=24 3", "13", "void", "9=10=11"]
        told = {0: self.number((7, 1, 1, 13, 1, 9)), 1: self.number((7, 1, 1, 13, 1, 10)),
                3: self.number((7, 1, 1, 13, 2, 9)), 71: self.number((7, 1, 1, 13, 24, 11)),
                72: self.number((7, 1, 24, 13, 1, 9)), 144: self.number((7, 2, 1, 13, 1, 9)),
                24 * 2 * 24 * 3 - 1: self.number((7, 24, 24, 13, 24, 11))}
        self.names("legs", 6, ["24"] * 6, arrivals, told, 24 * 2 * 24 * 3)

    def test_first_leg_void(self):
        told = {0: self.number((1, 2, 2, 2, 2, 2)), 23: self.number((24, 2, 2, 2, 2, 2))}
        self.names("legs", 6, ["24"] * 6, ["void"] + ["2"] * 5, told, 24)

    def test_legs_of_unlike_size(self):
        races = ["24 couple 1 24", "2", "12 couple 1 2 couple 3 4", "24", "3", "24 couple 22 23"]
        sizes = (23, 2, 10, 24, 3, 23)
        count = 23 * 2 * 10 * 24 * 3 * 23
        self.names("legs", 6, races, ["void"] * 6, {i: i for i in (0, 1, 22, 23, 500000, count - 1)}, count)
        at = (0, 1, 1, 22, 2, 22)
        number = 0
        for size, place in zip(sizes, at):
            number = number * size + place
        self.names("legs", 6, races, ["24", "2", "4", "23", "3", "24"], {0: number}, 1)


class Refused(unittest.TestCase):
    VOIDS = [f"race {race} void\n" for race in range(1, 7)]

    def each(self, pool, result, expected):
        for i in (0, 1, HIGHEST):
            self.assertEqual(won(pool, i, as_bytes(CARD), as_bytes(result)), expected, (pool, i, result))

    def test_not_told(self):
        for pool in range(8):
            self.each(pool, "", [-3])
        for race in range(6):
            self.each(7, "".join(self.VOIDS[:race] + self.VOIDS[race + 1:]), [-3])
        self.each(2, "race 1 came 1\nrace 3 came 1\n", [-3])
        self.each(6, "race 5 came 1\n", [-3])
        self.each(6, "race 6 came 1\n", [-3])
        self.each(6, "race 5 void\n", [-3])

    def test_none(self):
        voids = "".join(self.VOIDS)
        for pool in range(6):
            self.each(pool, voids, [-4])
        for pool, last in ((6, 95), (7, 5 * 4 * 11 * 2 * 16 * 6 - 1)):
            self.assertEqual(won(pool, last, as_bytes(CARD), as_bytes(voids)), [0, last])
            self.assertEqual(won(pool, last + 1, as_bytes(CARD), as_bytes(voids)), [-4])
        self.each(2, "race 2 came 1 out 2,3,4\n", [-4])
        self.each(3, "race 3 came 12 11 1 out 3,4,5,6,7,8,9,10\n", [-4])

    def test_not_told_goes_before_none(self):
        # As many as i tells could never have won, and still it's the open leg that is answered.
        for pool, result in ((0, ""), (6, "race 5 void\n"), (6, "race 6 came 1\n"), (7, "".join(self.VOIDS[:5]))):
            for i in (5 * 4 * 11 * 2 * 16 * 6, 24 ** 6, HIGHEST):
                self.assertEqual(won(pool, i, as_bytes(CARD), as_bytes(result)), [-3])
