"""right: which combination a number stands for, and what is refused, in which order."""

import unittest

from raceresults.results import right
from support import CARD, HIGHEST, as_bytes, card_of, heads_of, result_of, rows_of

# How many combinations each pool of CARD has.
ROWS = (5, 5, 12, 11 * 10 * 9 * 8, 1, 16 * 15 * 14 // 6, 16 * 6, 5 * 4 * 11 * 2 * 16 * 6)


class Numbered(unittest.TestCase):
    def asks(self, card, result, number, expected):
        self.assertEqual(right(0, number, as_bytes(card), as_bytes(result)), expected)

    # With the winner of each race as told, one row alone is right in full.
    def finds(self, kind, k, races, arrivals, number):
        with self.subTest(kind=kind, k=k, races=races, arrivals=arrivals):
            full = 1 if kind == "place" else k
            self.asks(card_of(kind, k, races), result_of(arrivals), number, [0, full])

    def only(self, kind, k, races, arrivals, number):
        full = 1 if kind == "place" else k
        card, result = as_bytes(card_of(kind, k, races)), as_bytes(result_of(arrivals))
        found = [at for at in range(len(rows_of(kind, k, races))) if right(0, at, card, result) == [0, full]]
        self.assertEqual(found, [number], (kind, k, races, arrivals))

    def ends(self, kind, k, races, count):
        card = card_of(kind, k, races)
        self.assertEqual(count, len(rows_of(kind, k, races)))
        for result in ("", result_of(["void"] * len(races))):
            first = right(0, 0, as_bytes(card), as_bytes(result))
            self.assertEqual(first, [-3] if result == "" else [0, k if kind == "legs" else 100])
            self.asks(card, result, count - 1, first)
            for number in (count, count + 1, HIGHEST):
                self.asks(card, result, number, [-1])


class Rows(Numbered):
    """Each row's own number, by a result that makes it the only one that's right in full."""

    RACES = ("4", "5", "5 couple 1 4", "6 couple 2 3 couple 4 6", "5 couple 1 2")

    def test_place(self):
        for race in self.RACES:
            for number, head in enumerate(heads_of(race)):
                self.only("place", 1, [race], [str(head)], number)

    def test_place_has_one_number_whatever_k(self):
        for k in (2, 3, 4):
            for number, head in enumerate(heads_of("6 couple 2 3")):
                self.only("place", k, ["6 couple 2 3"], [f"{head} out {self.others('6 couple 2 3', head)}"], number)

    def others(self, race, head):
        runners = range(1, int(race.split(" ")[0]) + 1)
        return ",".join(str(runner) for runner in runners if runner != head)

    def test_order(self):
        for race in self.RACES:
            for k in (2, 3, 4):
                if k <= len(heads_of(race)):
                    for number, row in enumerate(rows_of("order", k, [race])):
                        self.only("order", k, [race], [" ".join(map(str, row))], number)

    def test_any(self):
        for race in self.RACES:
            for k in (2, 3):
                for number, row in enumerate(rows_of("any", k, [race])):
                    self.only("any", k, [race], [" ".join(map(str, reversed(row)))], number)

    def test_legs(self):
        for races in (["4", "3"], ["2", "5 couple 1 4"], ["3", "2", "4"], ["4 couple 2 3", "2", "3 couple 1 2"],
                      ["2", "3", "2", "3"], ["2"] * 5, ["2"] * 4 + ["2 couple 1 2", "3"]):
            for number, row in enumerate(rows_of("legs", len(races), races)):
                self.only("legs", len(races), races, [str(head) for head in row], number)


class LargeRaces(Numbered):
    RACE = "24 couple 1 2 couple 3 4"

    def test_place(self):
        self.finds("place", 1, ["24"], ["24"], 23)
        self.finds("place", 1, [self.RACE], ["24"], 21)
        self.finds("place", 1, [self.RACE], ["4"], 1)

    def test_order(self):
        rows = rows_of("order", 4, [self.RACE])
        for number in (0, 1, 19, 7979, 7980, 100000, len(rows) - 2, len(rows) - 1):
            self.finds("order", 4, [self.RACE], [" ".join(map(str, rows[number]))], number)
        self.finds("order", 4, ["24"], ["1 2 3 4"], 0)
        self.finds("order", 4, ["24"], ["24 23 22 21"], 24 * 23 * 22 * 21 - 1)

    def test_any(self):
        rows = rows_of("any", 3, ["24"])
        for number in range(0, len(rows), 11):
            self.finds("any", 3, ["24"], [" ".join(map(str, rows[number]))], number)
        self.finds("any", 3, ["24"], ["24 23 22"], 2023)

    def test_legs(self):
        self.finds("legs", 6, ["24"] * 6, ["1"] * 6, 0)
        self.finds("legs", 6, ["24"] * 6, ["24"] * 6, 24 ** 6 - 1)
        self.finds("legs", 6, ["24"] * 6, ["1"] * 5 + ["2"], 1)
        self.finds("legs", 6, ["24"] * 6, ["2"] + ["1"] * 5, 24 ** 5)
        row = (7, 1, 24, 13, 2, 9)
        number = 0
        for head in row:
            number = number * 24 + head - 1
        self.finds("legs", 6, ["24"] * 6, [str(head) for head in row], number)


class Ends(Numbered):
    def test_place(self):
        for k in (1, 2, 3, 4):
            self.ends("place", k, ["4"], 4)
            self.ends("place", k, ["6 couple 1 4"], 5)
        self.ends("place", 4, ["24"], 24)
        self.ends("place", 1, ["2 couple 1 2"], 1)

    def test_order(self):
        self.ends("order", 2, ["2"], 2)
        self.ends("order", 2, ["5 couple 1 2"], 12)
        self.ends("order", 3, ["5"], 60)
        self.ends("order", 4, ["4"], 24)
        self.ends("order", 4, ["24"], 255024)

    def test_any(self):
        self.ends("any", 2, ["2"], 1)
        self.ends("any", 2, ["5 couple 1 2"], 6)
        self.ends("any", 3, ["3"], 1)
        self.ends("any", 3, ["24"], 2024)

    def test_legs(self):
        self.ends("legs", 2, ["2", "3"], 6)
        self.ends("legs", 2, ["2 couple 1 2", "2 couple 1 2"], 1)
        self.ends("legs", 3, ["2", "4 couple 1 3", "5"], 30)

    def test_most(self):
        card = card_of("legs", 6, ["24"] * 6)
        for result, told in (("", [-3]), (result_of(["void"] * 6), [0, 6]), (result_of(["1=2"] * 6), [0, 0])):
            self.asks(card, result, 24 ** 6 - 1, told)
            for number in (24 ** 6, 24 ** 6 + 1, HIGHEST):
                self.asks(card, result, number, [-1])

    def test_runners_out_are_counted(self):
        self.asks(card_of("order", 2, ["3"]), "race 1 came 3 out 1,2\n", 5, [0, 100])
        self.asks(card_of("order", 2, ["3"]), "race 1 came 3 out 1,2\n", 6, [-1])
        self.asks(card_of("place", 1, ["3"]), "race 1 came 2 out 3\n", 2, [0, 100])
        self.asks(card_of("place", 1, ["3"]), "race 1 came 2 out 3\n", 3, [-1])


class Refused(Numbered):
    def test_not_told(self):
        voids = [f"race {race} void\n" for race in range(1, 7)]
        for pool, rows in enumerate(ROWS):
            for number in (0, rows - 1):
                self.assertEqual(right(pool, number, as_bytes(CARD), []), [-3])
            self.assertEqual(right(pool, rows, as_bytes(CARD), []), [-1])
            self.assertEqual(right(pool, HIGHEST, as_bytes(CARD), []), [-1])
            self.assertEqual(right(pool, rows, as_bytes(CARD), as_bytes("".join(voids))), [-1])
        for race in range(6):
            result = as_bytes("".join(voids[:race] + voids[race + 1:]))
            self.assertEqual(right(7, 0, as_bytes(CARD), result), [-3])
            self.assertEqual(right(7, ROWS[7], as_bytes(CARD), result), [-1])

    def test_not_told_by_what_else_is(self):
        self.assertEqual(right(2, 0, as_bytes(CARD), as_bytes("race 1 came 1\nrace 3 came 1\n")), [-3])
        self.assertEqual(right(6, 0, as_bytes(CARD), as_bytes("race 5 came 1\n")), [-3])
        self.assertEqual(right(6, 0, as_bytes(CARD), as_bytes("race 6 came 1\n")), [-3])

    def test_an_interest_that_is_out_in_a_pool_not_told(self):
        self.assertEqual(right(6, 0, as_bytes(CARD), as_bytes("race 5 came 3 out 1,2\n")), [-3])
