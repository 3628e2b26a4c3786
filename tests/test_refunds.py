"""refunds: how many combinations of a pool are refunded, and of which pools that's told."""

import itertools
import unittest

from raceresults.results import refunds, right
from support import CARD, HIGHEST, as_bytes, card_of, heads_of, result_of, rows_of


def asked(kind, k, races, arrivals):
    return refunds(0, as_bytes(card_of(kind, k, races)), as_bytes(result_of(arrivals)))


# Of legs too large to be listed: the rows that have an interest which is out in its leg.
def legs_with_out(races, outs):
    heads = [heads_of(race) for race in races]
    return sum(1 for row in itertools.product(*heads) if any(head in out for head, out in zip(row, outs)))


class Refunds(unittest.TestCase):
    def counts(self, kind, k, races, arrivals, count):
        with self.subTest(kind=kind, k=k, races=races, arrivals=arrivals):
            self.assertEqual(asked(kind, k, races, arrivals), [0, count])

    # The count is told here, and it's held against right as well, number by number.
    def both(self, kind, k, races, arrivals, count):
        self.counts(kind, k, races, arrivals, count)
        card, result = as_bytes(card_of(kind, k, races)), as_bytes(result_of(arrivals))
        told = [right(0, number, card, result) for number in range(len(rows_of(kind, k, races)))]
        self.assertEqual(told.count([0, 100]), count, (kind, k, races, arrivals))


class Place(Refunds):
    def test_so_many_as_are_out(self):
        for k in (1, 2, 3, 4):
            self.both("place", k, ["6"], ["5 2 6 1 3 4"], 0)
            self.both("place", k, ["6"], ["5 2"], 0)
            self.both("place", k, ["6"], ["5 2 out 1"], 1)
            self.both("place", k, ["6"], ["5=6 out 1,2,4"], 3)
            self.both("place", k, ["6"], ["5 out 1,2,3,4,6"], 5)

    def test_couples(self):
        race = "6 couple 1 4 couple 2 5"
        self.both("place", 2, [race], ["3 out 1"], 0)
        self.both("place", 2, [race], ["3 out 4"], 0)
        self.both("place", 2, [race], ["3 out 1,4"], 1)
        self.both("place", 2, [race], ["3 out 1,2,4,5"], 2)
        self.both("place", 2, [race], ["3 4 out 1,2,5,6"], 2)
        self.both("place", 1, ["2 couple 1 2"], ["2 out 1"], 0)

    def test_couple_of_three(self):
        race = "6 couple 1 4 couple 1 6"
        self.both("place", 2, [race], ["3 out 1,4"], 0)
        self.both("place", 2, [race], ["3 out 4,6"], 0)
        self.both("place", 2, [race], ["3 out 1,4,6"], 1)

    def test_void(self):
        for k in (1, 2, 3, 4):
            self.both("place", k, ["6"], ["void"], 6)
            self.both("place", k, ["6 couple 1 4"], ["void"], 5)
            self.counts("place", k, ["24"], ["void"], 24)


class Order(Refunds):
    def test_none_out(self):
        for k in (2, 3, 4):
            self.both("order", k, ["6"], ["5 2 6 1 3 4"], 0)
            self.both("order", k, ["6"], ["5"], 0)
            self.both("order", k, ["6"], ["1=2=3=4=5=6"], 0)

    def test_some_out(self):
        self.both("order", 2, ["5"], ["2 out 1"], 20 - 12)
        self.both("order", 2, ["5"], ["2 out 1,3"], 20 - 6)
        self.both("order", 3, ["6"], ["2 out 1"], 120 - 60)
        self.both("order", 3, ["6"], ["2=5 out 1,3"], 120 - 24)
        self.both("order", 4, ["6"], ["2 5 out 1"], 360 - 120)

    def test_all_but_k(self):
        self.both("order", 2, ["6"], ["2 5 out 1,3,4,6"], 30 - 2)
        self.both("order", 3, ["6"], ["2 5 out 1,3,4"], 120 - 6)
        self.both("order", 4, ["6"], ["2 5 out 1,3"], 360 - 24)

    def test_all_but_fewer_than_k(self):
        self.both("order", 2, ["6"], ["2 out 1,3,4,5,6"], 30)
        self.both("order", 3, ["6"], ["2=5 out 1,3,4,6"], 120)
        self.both("order", 3, ["6"], ["2 out 1,3,4,5,6"], 120)
        self.both("order", 4, ["6"], ["2 5 6 out 1,3,4"], 360)
        self.both("order", 4, ["6"], ["2 out 1,3,4,5,6"], 360)

    def test_couples(self):
        race = "6 couple 1 4 couple 2 5"
        self.both("order", 2, [race], ["3 out 1"], 0)
        self.both("order", 2, [race], ["3 out 1,5"], 0)
        self.both("order", 2, [race], ["3 out 1,4"], 12 - 6)
        self.both("order", 3, [race], ["3 out 1,2,4"], 24 - 6)
        self.both("order", 4, [race], ["3 out 1,4"], 24)

    def test_void(self):
        self.both("order", 2, ["5"], ["void"], 20)
        self.both("order", 3, ["5 couple 1 2"], ["void"], 24)
        self.both("order", 4, ["5"], ["void"], 120)
        self.counts("order", 4, ["17"], ["void"], 57120)
        self.counts("order", 3, ["24"], ["void"], 12144)


class AnyOrder(Refunds):
    def test_none_out(self):
        for k in (2, 3):
            self.both("any", k, ["6"], ["5 2 6 1 3 4"], 0)
            self.both("any", k, ["6"], ["5"], 0)

    def test_some_out(self):
        self.both("any", 2, ["5"], ["2 out 1"], 10 - 6)
        self.both("any", 2, ["5"], ["2 out 1,3"], 10 - 3)
        self.both("any", 3, ["6"], ["2 out 1"], 20 - 10)
        self.both("any", 3, ["6"], ["2=5 out 1,3"], 20 - 4)

    def test_all_but_k(self):
        self.both("any", 2, ["6"], ["2 5 out 1,3,4,6"], 15 - 1)
        self.both("any", 3, ["6"], ["2 5 out 1,3,4"], 20 - 1)

    def test_all_but_fewer_than_k(self):
        self.both("any", 2, ["6"], ["2 out 1,3,4,5,6"], 15)
        self.both("any", 3, ["6"], ["2 5 out 1,3,4,6"], 20)
        self.both("any", 3, ["6"], ["2 out 1,3,4,5,6"], 20)

    def test_couples(self):
        race = "6 couple 1 4 couple 2 5"
        self.both("any", 2, [race], ["3 out 1,5"], 0)
        self.both("any", 2, [race], ["3 out 1,4"], 6 - 3)
        self.both("any", 3, [race], ["3 out 1,4"], 4 - 1)
        self.both("any", 3, [race], ["3 out 1,2,4,5"], 4)

    def test_void(self):
        self.both("any", 2, ["5"], ["void"], 10)
        self.both("any", 3, ["5 couple 1 2"], ["void"], 4)
        self.counts("any", 3, ["24"], ["void"], 2024)


class Legs(Refunds):
    def legs(self, races, arrivals, count):
        self.both("legs", len(races), races, arrivals, count)

    def test_none_out(self):
        self.legs(["3", "4"], ["2", "4 3"], 0)
        self.legs(["3", "4", "2"], ["1=2=3", "4", "2 1"], 0)

    def test_out_in_one_leg(self):
        self.legs(["3", "4"], ["2 out 1", "4 3"], 4)
        self.legs(["3", "4"], ["2", "4 out 1,2,3"], 9)
        self.legs(["3", "4", "2"], ["2", "4 out 1,3", "2"], 12)
        self.legs(["3", "4", "2"], ["2", "1", "2 out 1"], 12)

    def test_out_in_several_legs_counts_once(self):
        self.legs(["3", "4"], ["2 out 1", "4 out 1"], 12 - 2 * 3)
        self.legs(["3", "4", "2"], ["2 out 1", "4 out 1,3", "2 out 1"], 24 - 2 * 2 * 1)
        self.legs(["3", "4", "2"], ["2 out 1,3", "4", "2 out 1"], 24 - 1 * 4 * 1)
        self.legs(["2"] * 6, ["2 out 1"] * 6, 64 - 1)

    def test_void_legs_alone_refund_nothing(self):
        self.legs(["3", "4"], ["void", "4"], 0)
        self.legs(["3", "4"], ["2", "void"], 0)
        self.legs(["3", "4", "2"], ["void", "4", "void"], 0)

    def test_void_legs_beside_some_out(self):
        self.legs(["3", "4"], ["void", "4 out 1,2"], 6)
        self.legs(["3", "4"], ["2 out 1", "void"], 4)
        self.legs(["3", "4", "2"], ["2 out 1", "void", "2 out 1"], 24 - 2 * 4 * 1)

    def test_all_void(self):
        self.legs(["3", "4"], ["void", "void"], 0)
        self.legs(["2"] * 6, ["void"] * 6, 0)

    def test_couples(self):
        races = ["5 couple 1 4 couple 2 5", "4 couple 1 3"]
        self.legs(races, ["3 out 1", "2 out 3"], 0)
        self.legs(races, ["3 out 1,4", "2"], 3)
        self.legs(races, ["3 out 1,2,4,5", "2 out 1,3"], 9 - 1 * 2)
        self.legs(races, ["3 out 1,4", "2 out 1"], 3)


class OfItsOwnRaces(unittest.TestCase):
    RACES = ["2", "4", "3", "5 couple 1 2", "6"]

    def counts(self, kind, k, first, arrivals, count):
        card, result = as_bytes(card_of(kind, k, self.RACES, first)), as_bytes(result_of(arrivals))
        with self.subTest(kind=kind, first=first, arrivals=arrivals):
            self.assertEqual(refunds(0, card, result), [0, count])

    def test_race_that_it_is_from(self):
        arrivals = ["1 out 2", "3 4", "2 3 out 1", "5 2 out 1,3", "void"]
        self.counts("place", 1, 1, arrivals, 1)
        self.counts("place", 1, 2, arrivals, 0)
        self.counts("place", 1, 3, arrivals, 1)
        self.counts("place", 1, 4, arrivals, 1)
        self.counts("place", 1, 5, arrivals, 6)
        self.counts("order", 2, 2, arrivals, 0)
        self.counts("order", 2, 4, arrivals, 12 - 6)
        self.counts("any", 2, 3, arrivals, 3 - 1)
        self.counts("legs", 2, 1, arrivals, 4)
        self.counts("legs", 3, 2, arrivals, 4 * (12 - 2 * 3))
        self.counts("legs", 2, 4, arrivals, 6)

    def test_other_races_are_open(self):
        self.counts("place", 2, 2, [None, "4 3 out 1"], 1)
        self.counts("order", 2, 4, [None, None, None, "5 2"], 0)
        self.counts("any", 2, 3, [None, None, "void"], 3)
        self.counts("legs", 2, 2, [None, "3 out 1", "1"], 3)


class Most(Refunds):
    """65,536 combinations are counted, of one more it's not told."""

    MOST = ["16", "16", "16", "16"]
    # 65,550 combinations: no pool has fewer and yet more than 65,536.
    ABOVE = ["10", "15", "19", "23"]

    def too_many(self, kind, k, races, arrivals):
        with self.subTest(kind=kind, k=k, races=races, arrivals=arrivals):
            self.assertEqual(asked(kind, k, races, arrivals), [-9])

    def test_just_as_many(self):
        self.counts("legs", 4, self.MOST, ["1"] * 4, 0)
        self.counts("legs", 4, self.MOST, ["void"] * 4, 0)
        self.counts("legs", 4, self.MOST, ["1 out 16", "void", "1", "void"], 4096)
        arrivals = ["1 out 2,16", "3 4 out 1", "void", "16 out 1,2,3,4,5"]
        outs = [(2, 16), (1,), (), (1, 2, 3, 4, 5)]
        self.counts("legs", 4, self.MOST, arrivals, legs_with_out(self.MOST, outs))

    def test_just_as_many_with_couples(self):
        races = ["24 couple 1 2 couple 3 4 couple 5 6 couple 7 8 couple 9 10 couple 11 12 couple 13 14 couple 15 16"] * 4
        self.counts("legs", 4, races, ["24 out 1,2"] + ["24 out 1"] * 3, 4096)
        races = ["2 couple 1 2", "4", "16", "8", "8", "16"]
        self.counts("legs", 6, races, ["2 out 1", "1 out 2", "void", "1", "8", "16"], 16384)

    def test_above(self):
        for arrivals in (["1"] * 4, ["void"] * 4, ["1 out 2,3,4,5,6,7,8,9,10"] * 4):
            self.too_many("legs", 4, self.ABOVE, arrivals)
        self.too_many("legs", 4, ["16", "16", "16", "17"], ["1 out 2"] * 4)
        self.too_many("legs", 5, ["16", "16", "16", "16", "2"], ["1"] * 5)

    def test_just_below(self):
        races = ["10", "13", "21", "24"]
        self.counts("legs", 4, races, ["1", "1", "void", "24 out 1"], 10 * 13 * 21)

    def test_one_interest_less_is_enough(self):
        self.counts("legs", 4, ["10", "15", "19", "23 couple 1 23"], ["1 out 2"] + ["1"] * 3, 15 * 19 * 22)
        self.counts("legs", 4, ["16", "16", "16", "17 couple 3 9"], ["1 out 2"] + ["1"] * 3, 4096)

    def test_order(self):
        self.counts("order", 4, ["17"], ["1 2"], 0)
        self.counts("order", 4, ["17"], ["1 2 out 3"], 57120 - 16 * 15 * 14 * 13)
        self.counts("order", 4, ["18 couple 1 18"], ["1 2 out 3"], 57120 - 16 * 15 * 14 * 13)
        self.counts("order", 4, ["17"], ["1 2 3 out 4,5,6,7,8,9,10,11,12,13,14,15,16,17"], 57120)
        for arrival in ("1 2", "void", "1 2 out 3", "1 out 2,3,4,5,6,7,8,9,10,11,12,13,14,15,16,17,18"):
            self.too_many("order", 4, ["18"], [arrival])
            self.too_many("order", 4, ["24"], [arrival])

    def test_six_legs_of_24(self):
        for arrival in ("1", "void", "1 out 2"):
            self.too_many("legs", 6, ["24"] * 6, [arrival] * 6)

    def test_runners_out_make_no_pool_smaller(self):
        out = ",".join(str(runner) for runner in range(2, 25))
        self.too_many("legs", 6, ["24"] * 6, [f"1 out {out}"] * 6)
        self.too_many("order", 4, ["24"], [f"1 out {out}"])


class Refused(unittest.TestCase):
    def asks(self, card, result, expected, pool=0):
        self.assertEqual(refunds(pool, as_bytes(card), as_bytes(result)), expected)

    def test_not_told_goes_before_too_many(self):
        voids = [f"race {race} void\n" for race in range(1, 7)]
        large = card_of("legs", 6, ["24"] * 6)
        self.asks(large, "", [-3])
        for race in range(6):
            self.asks(large, "".join(voids[:race] + voids[race + 1:]), [-3])
        self.asks(large, "".join(voids), [-9])
        self.asks(card_of("order", 4, ["24"]), "", [-3])
        self.asks(card_of("order", 4, ["24"]), voids[0], [-9])

    def test_not_told_though_some_are_out(self):
        self.asks(CARD, "race 5 came 3 out 1,2\n", [-3], 6)
        self.asks(CARD, "race 6 came 1 out 2,3,4,5,6\n", [-3], 6)

    def test_no_such_pool_goes_before_too_many(self):
        large = card_of("legs", 6, ["24"] * 6)
        for pool in (1, 64, 65536, HIGHEST):
            self.asks(large, result_of(["void"] * 6), [-4], pool)
            self.asks(large, "", [-4], pool)

    def test_fault_and_no_card_go_before_too_many(self):
        large = card_of("legs", 6, ["24"] * 6)
        self.asks(large, result_of(["void"] * 6) + "x", [-6])
        self.asks(large + "\n", result_of(["void"] * 6), [-8])
        self.assertEqual(refunds(0, as_bytes(large), [10] * 65537), [-2])

    def test_each_pool_of_a_card(self):
        voids = "".join(f"race {race} void\n" for race in range(1, 7))
        told = [refunds(pool, as_bytes(CARD), as_bytes(voids)) for pool in range(9)]
        self.assertEqual(told, [[0, 5], [0, 5], [0, 12], [0, 7920], [0, 1], [0, 560], [0, 0], [0, 0], [-4]])
