"""won: which combinations of one race and of legs have won and aren't refunded, one by one."""

import itertools
import unittest

from raceresults.results import won
from support import HIGHEST, as_bytes, card_of, result_of, rows_of


class Winners(unittest.TestCase):
    # Of a pool over these races: all the rows that have won, in their order, and none behind them.
    def wins(self, kind, k, races, arrivals, winners):
        card, result = as_bytes(card_of(kind, k, races)), as_bytes(result_of(arrivals))
        rows = rows_of(kind, k, races)
        self.assertEqual(winners, sorted(winners))
        with self.subTest(kind=kind, k=k, races=races, arrivals=arrivals):
            told = [won(0, i, card, result) for i in range(len(winners))]
            self.assertEqual(told, [[0, rows.index(row)] for row in winners])
            for i in (len(winners), len(winners) + 1, HIGHEST):
                self.assertEqual(won(0, i, card, result), [-4])


class Place(Winners):
    def places(self, k, race, arrival, heads):
        self.wins("place", k, [race], [arrival], [(head,) for head in heads])

    def test_first_k(self):
        self.places(1, "6", "5 2 6 1 3 4", [5])
        self.places(2, "6", "5 2 6 1 3 4", [2, 5])
        self.places(3, "6", "5 2 6 1 3 4", [2, 5, 6])
        self.places(4, "6", "5 2 6 1 3 4", [1, 2, 5, 6])

    def test_dead_heats_across_the_last_place(self):
        self.places(1, "6", "2=5 1", [2, 5])
        self.places(1, "4", "1=2=3=4", [1, 2, 3, 4])
        self.places(2, "6", "5 1=2=3 4", [1, 2, 3, 5])
        self.places(3, "6", "2 4=6 1=3 5", [2, 4, 6])
        self.places(3, "6", "4=6 2=3 1", [2, 3, 4, 6])
        self.places(4, "8", "8 7 6 1=2=3=4=5", [1, 2, 3, 4, 5, 6, 7, 8])

    def test_behind_has_not_come_in(self):
        self.places(1, "6", "5", [5])
        self.places(3, "6", "5", [5])
        self.places(4, "6", "5 2", [2, 5])
        self.places(4, "4", "4", [4])

    def test_out(self):
        self.places(3, "6", "5 2 out 1,6", [2, 5])
        self.places(2, "6", "5 2 3 out 1,4,6", [2, 5])
        self.places(4, "4", "3 out 1,2,4", [3])

    def test_couples(self):
        race = "6 couple 1 4 couple 2 5"
        self.places(2, race, "4 1 3 6", [1, 3])
        self.places(2, race, "4=5 3 6", [1, 2])
        self.places(3, race, "6 4=5 1=3", [1, 2, 6])
        self.places(2, race, "5 6 out 1,2,4", [2, 6])

    def test_void(self):
        for k in (1, 2, 3, 4):
            self.places(k, "5 couple 1 4", "void", [])


class Order(Winners):
    def orders(self, k, race, arrival, rows):
        self.wins("order", k, [race], [arrival], rows)

    def test_no_dead_heat(self):
        self.orders(2, "6", "5 2 6 1 3 4", [(5, 2)])
        self.orders(3, "6", "5 2 6 1 3 4", [(5, 2, 6)])
        self.orders(4, "6", "5 2 6 1 3 4", [(5, 2, 6, 1)])
        self.orders(2, "2", "2 1", [(2, 1)])
        self.orders(4, "4", "4 3 2 1", [(4, 3, 2, 1)])

    def test_dead_heat_within_the_first_k(self):
        self.orders(2, "4", "1=3 4", [(1, 3), (3, 1)])
        self.orders(3, "5", "1=3 4 5", [(1, 3, 4), (3, 1, 4)])
        self.orders(3, "5", "5 2=4 1", [(5, 2, 4), (5, 4, 2)])
        self.orders(4, "5", "2=5 1=3 4", [(2, 5, 1, 3), (2, 5, 3, 1), (5, 2, 1, 3), (5, 2, 3, 1)])

    def test_dead_heat_across_the_last_place(self):
        self.orders(2, "5", "3 1=4=5", [(3, 1), (3, 4), (3, 5)])
        self.orders(2, "4", "1=3=4", [(1, 3), (1, 4), (3, 1), (3, 4), (4, 1), (4, 3)])
        self.orders(3, "6", "6 1=3=5 2", [(6, 1, 3), (6, 1, 5), (6, 3, 1), (6, 3, 5), (6, 5, 1), (6, 5, 3)])
        self.orders(4, "6", "2=4 1 3=6", [(2, 4, 1, 3), (2, 4, 1, 6), (4, 2, 1, 3), (4, 2, 1, 6)])

    def test_all_in_one_dead_heat(self):
        for k in (2, 3, 4):
            self.orders(k, "5", "1=2=3=4=5", list(itertools.permutations(range(1, 6), k)))

    def test_behind_among_the_first(self):
        self.orders(2, "4", "3", [(3, 1), (3, 2), (3, 4)])
        self.orders(3, "4", "4", [(4, 1, 2), (4, 1, 3), (4, 2, 1), (4, 2, 3), (4, 3, 1), (4, 3, 2)])
        self.orders(4, "5", "4 2=5", [(4, 2, 5, 1), (4, 2, 5, 3), (4, 5, 2, 1), (4, 5, 2, 3)])

    def test_out(self):
        self.orders(2, "4", "3 out 1", [(3, 2), (3, 4)])
        self.orders(3, "5", "3 4 out 1", [(3, 4, 2), (3, 4, 5)])
        self.orders(3, "5", "3 4 out 1,5", [(3, 4, 2)])

    def test_fewer_than_k_are_not_out(self):
        self.orders(2, "4", "3 out 1,2,4", [])
        self.orders(3, "4", "1=3 out 2,4", [])
        self.orders(3, "4", "3 out 2,4", [])
        self.orders(4, "5", "3 1 out 2,4", [])
        self.orders(4, "4", "1 2 3 out 4", [])
        self.orders(2, "4 couple 1 2", "1=2 out 3,4", [])

    def test_couples(self):
        race = "6 couple 1 4 couple 2 5"
        self.orders(2, race, "4 1 5 3", [(1, 2)])
        self.orders(3, race, "3=4 1=5 6", [(1, 3, 2), (3, 1, 2)])
        self.orders(3, race, "3 4=5 1=2", [(3, 1, 2), (3, 2, 1)])
        self.orders(2, race, "3 out 1,2,5", [(3, 1), (3, 6)])
        self.orders(3, race, "4 out 1,2,3", [(1, 2, 6), (1, 6, 2)])
        self.orders(4, race, "6 3 out 1,2,5", [])

    def test_void(self):
        for k in (2, 3, 4):
            self.orders(k, "5 couple 1 4", "void", [])


class AnyOrder(Winners):
    def unordered(self, k, race, arrival, rows):
        self.wins("any", k, [race], [arrival], rows)

    def test_no_dead_heat(self):
        self.unordered(2, "6", "5 2 6 1 3 4", [(2, 5)])
        self.unordered(3, "6", "5 2 6 1 3 4", [(2, 5, 6)])
        self.unordered(2, "2", "2 1", [(1, 2)])
        self.unordered(3, "3", "3 1 2", [(1, 2, 3)])

    def test_dead_heat_within_the_first_k(self):
        self.unordered(2, "5", "2=4 1", [(2, 4)])
        self.unordered(3, "5", "3=4 1 2", [(1, 3, 4)])
        self.unordered(3, "5", "5 1=3 2", [(1, 3, 5)])
        self.unordered(3, "5", "1=2=5 3", [(1, 2, 5)])

    def test_dead_heat_across_the_last_place(self):
        self.unordered(2, "5", "3 1=4=5", [(1, 3), (3, 4), (3, 5)])
        self.unordered(2, "5", "1=4=5 2", [(1, 4), (1, 5), (4, 5)])
        self.unordered(3, "6", "4 1=3=6 2", [(1, 3, 4), (1, 4, 6), (3, 4, 6)])
        self.unordered(3, "6", "2=5 1=3=6", [(1, 2, 5), (2, 3, 5), (2, 5, 6)])
        self.unordered(3, "5", "2=3=4=5", [(2, 3, 4), (2, 3, 5), (2, 4, 5), (3, 4, 5)])

    def test_all_in_one_dead_heat(self):
        for k in (2, 3):
            self.unordered(k, "5", "1=2=3=4=5", list(itertools.combinations(range(1, 6), k)))

    def test_behind_among_the_first(self):
        self.unordered(2, "4", "3", [(1, 3), (2, 3), (3, 4)])
        self.unordered(3, "5", "3", [(1, 2, 3), (1, 3, 4), (1, 3, 5), (2, 3, 4), (2, 3, 5), (3, 4, 5)])
        self.unordered(3, "5", "2=5", [(1, 2, 5), (2, 3, 5), (2, 4, 5)])

    def test_out(self):
        self.unordered(2, "4", "3 out 1", [(2, 3), (3, 4)])
        self.unordered(3, "5", "3 4 out 1", [(2, 3, 4), (3, 4, 5)])
        self.unordered(3, "5", "3 4 out 1,5", [(2, 3, 4)])

    def test_fewer_than_k_are_not_out(self):
        self.unordered(2, "4", "3 out 1,2,4", [])
        self.unordered(3, "4", "1=3 out 2,4", [])
        self.unordered(3, "3", "3 out 2", [])
        self.unordered(2, "4 couple 1 2", "1=2 out 3,4", [])

    def test_couples(self):
        race = "6 couple 1 4 couple 2 5"
        self.unordered(2, race, "6 4 1 5", [(1, 6)])
        self.unordered(2, race, "3 4=5 1=2", [(1, 3), (2, 3)])
        self.unordered(3, race, "6 out 1,4", [(2, 3, 6)])
        self.unordered(3, race, "6 out 1,3,4", [])

    def test_void(self):
        for k in (2, 3):
            self.unordered(k, "5 couple 1 4", "void", [])


class Legs(Winners):
    def legs(self, races, arrivals, rows):
        self.wins("legs", len(races), races, arrivals, rows)

    def test_one_first_in_each(self):
        self.legs(["3", "4"], ["2 1", "4 3"], [(2, 4)])
        self.legs(["2", "3", "2"], ["1", "3", "2"], [(1, 3, 2)])
        self.legs(["2"] * 6, ["1", "2", "1 2", "2 1", "2", "1"], [(1, 2, 1, 2, 2, 1)])

    def test_dead_heat_in_the_first_group(self):
        self.legs(["4", "3"], ["1=3 4", "2"], [(1, 2), (3, 2)])
        self.legs(["4", "3"], ["2", "1=3 2"], [(2, 1), (2, 3)])
        self.legs(["4", "3"], ["1=4", "2=3"], [(1, 2), (1, 3), (4, 2), (4, 3)])
        self.legs(["2", "2", "2"], ["1=2"] * 3, list(itertools.product((1, 2), repeat=3)))

    def test_dead_heat_behind_the_first(self):
        self.legs(["4", "3"], ["1 3=4", "2 1=3"], [(1, 2)])

    def test_void_legs(self):
        self.legs(["3", "3"], ["void", "2"], [(1, 2), (2, 2), (3, 2)])
        self.legs(["3", "3"], ["2", "void"], [(2, 1), (2, 2), (2, 3)])
        self.legs(["2", "3 couple 1 3", "2"], ["1=2", "void", "2"], [(1, 1, 2), (1, 2, 2), (2, 1, 2), (2, 2, 2)])
        self.legs(["3", "2 couple 1 2", "2"], ["void"] * 3, list(itertools.product((1, 2, 3), (1,), (1, 2))))

    def test_out(self):
        self.legs(["3", "3"], ["2 out 1", "3"], [(2, 3)])
        self.legs(["3", "3"], ["3 out 1,2", "void"], [(3, 1), (3, 2), (3, 3)])
        self.legs(["3", "3", "3"], ["2=3 out 1", "void", "1 out 3"], [(2, 1, 1), (2, 2, 1), (2, 3, 1), (3, 1, 1),
                                                                     (3, 2, 1), (3, 3, 1)])

    def test_couples(self):
        races = ["5 couple 1 4 couple 2 5", "4 couple 1 3"]
        self.legs(races, ["5 2", "3 2"], [(2, 1)])
        self.legs(races, ["3=4 1", "1=3"], [(1, 1), (3, 1)])
        self.legs(races, ["4=5 3 out 1,2", "void"], [(1, 1), (1, 2), (1, 4), (2, 1), (2, 2), (2, 4)])

    def test_one_interest_alone(self):
        self.legs(["2 couple 1 2", "2 couple 1 2"], ["2", "1"], [(1, 1)])
        self.legs(["2 couple 1 2", "2 couple 1 2"], ["2", "void"], [(1, 1)])


class OfItsOwnRaces(unittest.TestCase):
    RACES = ["2", "4", "3", "5 couple 1 2", "6"]

    def first(self, kind, k, first, arrivals, row):
        legs = k if kind == "legs" else 1
        rows = rows_of(kind, k, self.RACES[first - 1:first - 1 + legs])
        card, result = as_bytes(card_of(kind, k, self.RACES, first)), as_bytes(result_of(arrivals))
        with self.subTest(kind=kind, first=first, arrivals=arrivals):
            self.assertEqual(won(0, 0, card, result), [-4] if row is None else [0, rows.index(row)])

    def test_race_that_it_is_from(self):
        arrivals = ["1", "3 4", "2 3", "5 2 out 1", "void"]
        self.first("place", 1, 1, arrivals, (1,))
        self.first("place", 1, 2, arrivals, (3,))
        self.first("place", 1, 3, arrivals, (2,))
        self.first("place", 1, 4, arrivals, (5,))
        self.first("place", 1, 5, arrivals, None)
        self.first("order", 2, 2, arrivals, (3, 4))
        self.first("order", 2, 4, arrivals, (5, 1))
        self.first("any", 2, 3, arrivals, (2, 3))
        self.first("legs", 2, 1, arrivals, (1, 3))
        self.first("legs", 3, 2, arrivals, (3, 2, 5))
        self.first("legs", 4, 2, arrivals, (3, 2, 5, 1))

    def test_other_races_are_open(self):
        self.first("place", 2, 2, [None, "4 3"], (3,))
        self.first("order", 2, 4, [None, None, None, "5 2"], (5, 1))
        self.first("any", 2, 3, [None, None, "void"], None)
        self.first("legs", 2, 2, [None, "3", "1"], (3, 1))


class NoDeadHeat(unittest.TestCase):
    """Promise E3: one order k that has won, those that came in first."""

    def one(self, k, race, arrival, row):
        card, result = as_bytes(card_of("order", k, [race])), as_bytes(f"race 1 came {arrival}\n")
        with self.subTest(k=k, race=race, arrival=arrival):
            number = rows_of("order", k, [race]).index(row)
            self.assertEqual(won(0, 0, card, result), [0, number])
            self.assertEqual(won(0, 1, card, result), [-4])

    def test_every_arrival(self):
        for k in (2, 3, 4):
            for length in range(k, 6):
                for row in itertools.permutations(range(1, 6), length):
                    self.one(k, "5", " ".join(map(str, row)), row[:k])

    def test_with_couples(self):
        heads = {1: 1, 2: 2, 3: 1, 4: 4, 5: 5, 6: 5}
        for row in itertools.permutations(heads):
            first_heads = list(dict.fromkeys(heads[runner] for runner in row))
            for k in (2, 4):
                self.one(k, "6 couple 1 3 couple 5 6", " ".join(map(str, row)), tuple(first_heads[:k]))

    def test_with_runners_out(self):
        self.one(2, "24", "24 1 out 2,3,4,23", (24, 1))
        self.one(3, "6", "6 4 2 out 1,3,5", (6, 4, 2))
        self.one(4, "24", "23 7 11 1 out 2,24", (23, 7, 11, 1))

    def test_fewer_came_in(self):
        card = as_bytes(card_of("order", 3, ["5"]))
        told = [won(0, i, card, as_bytes("race 1 came 4 2\n")) for i in range(4)]
        self.assertEqual(told[3], [-4])
        self.assertEqual(len(set(map(tuple, told))), 4)
