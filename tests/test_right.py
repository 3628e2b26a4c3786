"""right: how far combinations of one race and of legs are right, and which are refunded."""

import unittest

from raceresults.results import right
from support import as_bytes, card_of, result_of, rows_of


class Rates(unittest.TestCase):
    # Of a pool over these races: how far each of the rows is right; rest: how far all others are.
    def rates(self, kind, k, races, arrivals, rights, rest=None):
        card, result = as_bytes(card_of(kind, k, races)), as_bytes(result_of(arrivals))
        rows = rows_of(kind, k, races)
        self.assertEqual(set(rights) - set(rows), set())
        for number, row in enumerate(rows):
            if row in rights or rest is not None:
                with self.subTest(kind=kind, k=k, races=races, arrivals=arrivals, row=row):
                    self.assertEqual(right(0, number, card, result), [0, rights.get(row, rest)])


class Place(Rates):
    # Of each interest of the race that's listed: how far it is right.
    def places(self, k, race, arrival, rights):
        self.rates("place", k, [race], [arrival], {(head,): rights[head] for head in rights})

    def winners(self, k, race, arrival, heads):
        self.rates("place", k, [race], [arrival], {(head,): 1 for head in heads}, 0)

    def test_first_k(self):
        self.winners(1, "6", "5 2 6 1 3 4", [5])
        self.winners(2, "6", "5 2 6 1 3 4", [5, 2])
        self.winners(3, "6", "5 2 6 1 3 4", [5, 2, 6])
        self.winners(4, "6", "5 2 6 1 3 4", [5, 2, 6, 1])

    def test_how_many_are_lower(self):
        self.places(3, "6", "5 2=6 1 3", {2: 1, 6: 1, 1: 0, 3: 0})
        self.places(3, "6", "5 2 1=6 3", {1: 1, 6: 1, 3: 0})
        self.places(4, "6", "2=5=6 1 3", {1: 1, 3: 0})
        self.places(2, "6", "2=5 1", {2: 1, 5: 1, 1: 0})

    def test_dead_heats_across_the_last_place(self):
        self.winners(1, "6", "2=5 1", [2, 5])
        self.winners(1, "4", "1=2=3=4", [1, 2, 3, 4])
        self.winners(2, "6", "5 1=2=3 4", [5, 1, 2, 3])
        self.winners(3, "6", "1=5 2=3 4", [1, 5, 2, 3])
        self.winners(4, "8", "1 2 3 4=5=6=7=8", [1, 2, 3, 4, 5, 6, 7, 8])

    def test_behind_is_not_in(self):
        self.winners(2, "6", "5", [5])
        self.winners(4, "6", "5 2", [5, 2])
        self.winners(4, "4", "4", [4])
        self.winners(3, "4", "1=4", [1, 4])

    def test_out(self):
        self.places(3, "6", "5 2 out 1,6", {5: 1, 2: 1, 3: 0, 4: 0, 1: 100, 6: 100})
        self.places(1, "3", "2 out 1,3", {2: 1, 1: 100, 3: 100})

    def test_couples_count_once(self):
        race = "6 couple 1 4 couple 2 5"
        self.winners(1, race, "4 3", [1])
        self.winners(2, race, "1 4 3 6", [1, 3])
        self.winners(2, race, "1=4 3 6", [1, 3])
        self.winners(3, race, "4 1=5 2 3 6", [1, 2, 3])
        self.winners(2, race, "1=4=5 3", [1, 2])
        self.winners(3, race, "1=4=5 3", [1, 2, 3])

    def test_best_runner_of_a_couple(self):
        race = "6 couple 1 4 couple 2 5"
        self.winners(1, race, "4 3 1", [1])
        self.winners(1, race, "1 3 4", [1])
        self.winners(2, race, "3 5=6 2", [3, 2, 6])

    def test_couple_of_which_some_are_out(self):
        race = "6 couple 1 4 couple 2 5"
        self.places(2, race, "3 4 out 1", {3: 1, 1: 1, 2: 0, 6: 0})
        self.places(2, race, "3 out 1,2,5", {3: 1, 1: 0, 2: 100, 6: 0})
        self.places(2, race, "3 out 4,5", {3: 1, 1: 0, 2: 0, 6: 0})
        self.places(2, "6 couple 1 4 couple 1 6", "3 out 1,4", {1: 0, 2: 0})
        self.places(2, "6 couple 1 4 couple 1 6", "3 out 1,4,6", {1: 100, 2: 0})

    def test_void(self):
        for k in (1, 2, 3, 4):
            self.rates("place", k, ["5 couple 1 4"], ["void"], {}, 100)


class Order(Rates):
    def test_no_dead_heat(self):
        self.rates("order", 2, ["4"], ["3 1 4 2"], {(3, 1): 2, (3, 2): 1, (3, 4): 1}, 0)
        self.rates("order", 3, ["5"], ["3 1 5 2"], {
            (3, 1, 5): 3, (3, 1, 2): 2, (3, 1, 4): 2, (3, 2, 1): 1, (3, 2, 4): 1, (3, 2, 5): 1,
            (3, 4, 1): 1, (3, 4, 2): 1, (3, 4, 5): 1, (3, 5, 1): 1, (3, 5, 2): 1, (3, 5, 4): 1}, 0)
        self.rates("order", 4, ["6"], ["6 4 2 1 3 5"], {
            (6, 4, 2, 1): 4, (6, 4, 2, 3): 3, (6, 4, 2, 5): 3, (6, 4, 1, 2): 2, (6, 4, 5, 1): 2,
            (6, 2, 4, 1): 1, (6, 5, 2, 1): 1, (4, 6, 2, 1): 0, (1, 4, 2, 6): 0, (5, 4, 2, 1): 0})

    def test_later_numbers_alone_are_nothing(self):
        self.rates("order", 2, ["4"], ["3 1 4 2"], {(4, 1): 0, (2, 1): 0, (1, 3): 0})
        self.rates("order", 3, ["4"], ["3 1 4 2"], {(3, 2, 4): 1, (2, 1, 4): 0})

    def test_dead_heat_at_the_first(self):
        self.rates("order", 2, ["4"], ["1=3 4"], {(1, 3): 2, (3, 1): 2, (1, 2): 1, (1, 4): 1, (3, 2): 1, (3, 4): 1}, 0)
        self.rates("order", 2, ["4"], ["1=3=4"], {
            (1, 3): 2, (1, 4): 2, (3, 1): 2, (3, 4): 2, (4, 1): 2, (4, 3): 2, (1, 2): 1, (3, 2): 1, (4, 2): 1}, 0)
        self.rates("order", 3, ["5"], ["1=3 4 5"], {
            (1, 3, 4): 3, (3, 1, 4): 3, (1, 3, 5): 2, (3, 1, 2): 2, (1, 4, 3): 1, (3, 4, 1): 1, (4, 1, 3): 0})

    def test_dead_heat_at_the_last(self):
        self.rates("order", 2, ["4"], ["3 1=4"], {(3, 1): 2, (3, 4): 2, (3, 2): 1}, 0)
        self.rates("order", 3, ["6"], ["3 1 4=5=6"], {
            (3, 1, 4): 3, (3, 1, 5): 3, (3, 1, 6): 3, (3, 1, 2): 2, (3, 4, 1): 1, (3, 5, 6): 1, (1, 3, 4): 0})

    def test_dead_heat_in_the_middle(self):
        self.rates("order", 4, ["6"], ["3 1=5 4 2"], {
            (3, 1, 5, 4): 4, (3, 5, 1, 4): 4, (3, 1, 5, 2): 3, (3, 5, 1, 6): 3, (3, 1, 4, 5): 2, (3, 5, 4, 1): 2,
            (3, 4, 1, 5): 1, (1, 3, 5, 4): 0})

    def test_numbers_alone_in_their_classes(self):
        self.rates("order", 2, ["6"], ["1=2 3=4 5=6"], {
            (1, 3): 1, (1, 5): 1, (3, 5): 0, (5, 1): 0, (3, 1): 0, (1, 2): 2, (3, 4): 0})
        self.rates("order", 3, ["6"], ["1=2 3=4 5=6"], {(1, 3, 5): 1, (1, 2, 3): 3, (2, 1, 4): 3, (1, 2, 5): 2})

    def test_behind_among_the_first(self):
        self.rates("order", 2, ["4"], ["3"], {(3, 1): 2, (3, 2): 2, (3, 4): 2}, 0)
        self.rates("order", 3, ["5"], ["3"], {
            (3, 1, 2): 3, (3, 2, 1): 3, (3, 5, 4): 3, (3, 4, 5): 3, (1, 3, 2): 0, (1, 2, 4): 0})
        self.rates("order", 4, ["4"], ["3 1"], {(3, 1, 2, 4): 4, (3, 1, 4, 2): 4, (3, 2, 1, 4): 1, (1, 3, 2, 4): 0})

    def test_out(self):
        self.rates("order", 2, ["4"], ["3 out 1"], {(3, 2): 2, (3, 4): 2, (2, 3): 0, (2, 4): 0, (4, 2): 0, (4, 3): 0}, 100)
        self.rates("order", 3, ["4"], ["3 2 4 out 1"], {
            (3, 2, 4): 3, (3, 4, 2): 1, (2, 3, 4): 0, (2, 4, 3): 0, (4, 2, 3): 0, (4, 3, 2): 0}, 100)

    def test_out_and_right_is_refunded(self):
        self.rates("order", 2, ["4"], ["3 out 1,2,4"], {}, 100)
        self.rates("order", 3, ["5"], ["3 4 out 1"], {(3, 4, 1): 100, (3, 4, 2): 3, (1, 3, 4): 100, (3, 1, 4): 100})

    def test_couples(self):
        race = "6 couple 1 4 couple 2 5"
        self.rates("order", 2, [race], ["4 1 5 3"], {(1, 2): 2, (1, 3): 1, (1, 6): 1}, 0)
        self.rates("order", 2, [race], ["3=4 1 5"], {
            (1, 3): 2, (3, 1): 2, (1, 2): 1, (3, 2): 1, (1, 6): 1, (3, 6): 1}, 0)
        self.rates("order", 2, [race], ["3 5 out 1,2"], {(3, 2): 2, (3, 1): 1, (3, 6): 1}, 0)
        self.rates("order", 2, [race], ["3 6 out 1,4,5"], {(3, 6): 2, (3, 2): 1, (2, 3): 0, (2, 6): 0, (6, 2): 0,
                                                           (6, 3): 0}, 100)

    def test_void(self):
        for k in (2, 3, 4):
            self.rates("order", k, ["5 couple 1 5"], ["void"], {}, 100)


class AnyOrder(Rates):
    def test_no_dead_heat(self):
        self.rates("any", 2, ["4"], ["3 1 4 2"], {(1, 3): 2, (2, 3): 1, (3, 4): 1}, 0)
        self.rates("any", 2, ["4"], ["1 3 4 2"], {(1, 3): 2, (1, 2): 1, (1, 4): 1}, 0)
        self.rates("any", 3, ["5"], ["5 2 3 1"], {
            (2, 3, 5): 3, (1, 2, 5): 2, (2, 4, 5): 2, (1, 3, 5): 1, (1, 4, 5): 1, (3, 4, 5): 1}, 0)

    def test_later_numbers_alone_are_nothing(self):
        self.rates("any", 2, ["4"], ["3 1 4 2"], {(1, 4): 0, (1, 2): 0, (2, 4): 0})
        self.rates("any", 3, ["4"], ["3 1 4 2"], {(1, 2, 4): 0, (2, 3, 4): 1, (1, 2, 3): 2, (1, 3, 4): 3})

    def test_dead_heat_at_the_first(self):
        self.rates("any", 2, ["4"], ["1=3 4"], {(1, 3): 2, (1, 2): 1, (1, 4): 1, (2, 3): 1, (3, 4): 1}, 0)
        self.rates("any", 2, ["5"], ["1=3=4"], {(1, 3): 2, (1, 4): 2, (3, 4): 2, (2, 5): 0}, 1)
        self.rates("any", 3, ["5"], ["2=4 1 3"], {
            (1, 2, 4): 3, (2, 3, 4): 2, (2, 4, 5): 2, (1, 3, 5): 0}, 1)
        self.rates("any", 3, ["5"], ["2=3=4=5"], {(1, 2, 3): 2, (1, 2, 4): 2, (1, 2, 5): 2, (1, 3, 4): 2, (1, 3, 5): 2,
                                                  (1, 4, 5): 2}, 3)

    def test_dead_heat_at_the_last(self):
        self.rates("any", 2, ["4"], ["3 1=4"], {(1, 3): 2, (3, 4): 2, (2, 3): 1}, 0)
        self.rates("any", 3, ["6"], ["3 1 4=5=6"], {
            (1, 3, 4): 3, (1, 3, 5): 3, (1, 3, 6): 3, (1, 2, 3): 2, (3, 4, 5): 1, (4, 5, 6): 0, (1, 4, 5): 0})
        self.rates("any", 3, ["6"], ["3 1=4=5 6"], {
            (1, 3, 4): 3, (1, 3, 5): 3, (3, 4, 5): 3, (1, 3, 6): 2, (2, 3, 4): 2, (2, 3, 6): 1, (1, 4, 5): 0})

    def test_numbers_alone_in_their_classes(self):
        self.rates("any", 2, ["6"], ["1=2 3=4 5=6"], {(1, 3): 1, (2, 5): 1, (3, 5): 0, (1, 2): 2, (3, 4): 0})
        self.rates("any", 3, ["6"], ["1=2 3=4 5=6"], {(1, 3, 5): 1, (1, 2, 3): 3, (1, 2, 5): 2, (1, 3, 4): 1})

    def test_behind_among_the_first(self):
        self.rates("any", 2, ["4"], ["3"], {(1, 3): 2, (2, 3): 2, (3, 4): 2}, 0)
        self.rates("any", 3, ["5"], ["3"], {(1, 2, 4): 0, (1, 2, 5): 0, (1, 4, 5): 0, (2, 4, 5): 0}, 3)
        self.rates("any", 3, ["5"], ["3 5"], {(1, 3, 5): 3, (2, 3, 5): 3, (3, 4, 5): 3, (1, 2, 3): 1, (1, 2, 5): 0})

    def test_out(self):
        self.rates("any", 2, ["4"], ["3 out 1"], {(2, 3): 2, (3, 4): 2, (2, 4): 0}, 100)
        self.rates("any", 2, ["4"], ["1 3 out 4"], {(1, 3): 2, (1, 2): 1, (2, 3): 0}, 100)
        self.rates("any", 3, ["4"], ["3 out 1,2"], {}, 100)

    def test_couples(self):
        race = "6 couple 1 4 couple 2 5"
        self.rates("any", 2, [race], ["4 1 5 3"], {(1, 2): 2, (1, 3): 1, (1, 6): 1}, 0)
        self.rates("any", 2, [race], ["6 5 out 1,2"], {(2, 6): 2, (1, 6): 1, (3, 6): 1}, 0)
        self.rates("any", 2, [race], ["6 5 out 1,4"], {(2, 6): 2, (3, 6): 1, (2, 3): 0}, 100)
        self.rates("any", 3, [race], ["1=4 2=5 6"], {(1, 2, 6): 3, (1, 2, 3): 2, (1, 3, 6): 1}, 0)

    def test_void(self):
        for k in (2, 3):
            self.rates("any", k, ["5 couple 1 5"], ["void"], {}, 100)


class Legs(Rates):
    def test_none_some_all(self):
        self.rates("legs", 2, ["3", "4"], ["2 1", "4 3"], {
            (2, 4): 2, (2, 1): 1, (2, 2): 1, (2, 3): 1, (1, 4): 1, (3, 4): 1}, 0)
        self.rates("legs", 3, ["2", "2", "2"], ["1", "2", "1"], {
            (1, 2, 1): 3, (1, 2, 2): 2, (1, 1, 1): 2, (2, 2, 1): 2, (1, 1, 2): 1, (2, 2, 2): 1, (2, 1, 1): 1,
            (2, 1, 2): 0})

    def test_later_legs_count_behind_a_wrong_one(self):
        self.rates("legs", 4, ["3"] * 4, ["1", "2", "3", "1 2"], {(2, 2, 3, 1): 3, (2, 1, 1, 1): 1, (1, 2, 3, 2): 3})

    def test_second_is_not_right(self):
        self.rates("legs", 2, ["3", "3"], ["2 1", "1 3"], {(1, 3): 0, (1, 1): 1, (2, 3): 1})

    def test_dead_heat_in_the_first_group(self):
        self.rates("legs", 2, ["4", "3"], ["1=3 4", "2"], {
            (1, 2): 2, (3, 2): 2, (2, 2): 1, (4, 2): 1, (2, 1): 0, (2, 3): 0, (4, 1): 0, (4, 3): 0}, 1)
        self.rates("legs", 2, ["2", "2"], ["1=2", "1=2"], {}, 2)

    def test_void_legs(self):
        self.rates("legs", 2, ["3", "3"], ["void", "2"], {(1, 2): 2, (2, 2): 2, (3, 2): 2}, 1)
        self.rates("legs", 2, ["3", "3"], ["2", "void"], {(2, 1): 2, (2, 2): 2, (2, 3): 2}, 1)
        self.rates("legs", 3, ["2", "2", "2"], ["1", "void", "2"], {
            (1, 1, 2): 3, (1, 2, 2): 3, (2, 1, 1): 1, (2, 2, 1): 1}, 2)
        self.rates("legs", 3, ["2", "2", "2"], ["void", "void", "void"], {}, 3)

    def test_out(self):
        self.rates("legs", 2, ["3", "3"], ["2 out 1", "3"], {
            (1, 1): 100, (1, 2): 100, (1, 3): 100, (2, 3): 2, (2, 1): 1, (2, 2): 1, (3, 3): 1}, 0)
        self.rates("legs", 2, ["3", "3"], ["2 out 1", "3 out 2"], {(2, 3): 2, (2, 1): 1, (3, 3): 1, (3, 1): 0}, 100)

    def test_out_and_right_is_refunded(self):
        self.rates("legs", 3, ["3"] * 3, ["2", "3 out 1", "1"], {(2, 1, 1): 100, (2, 3, 1): 3, (2, 2, 1): 2})

    def test_out_in_the_same_number_of_another_leg(self):
        self.rates("legs", 2, ["3", "3"], ["2 out 1", "3"], {(2, 1): 1, (3, 1): 0, (1, 2): 100})

    def test_out_beside_a_void_leg(self):
        self.rates("legs", 2, ["3", "3"], ["void", "3 out 1"], {
            (1, 1): 100, (2, 1): 100, (3, 1): 100, (1, 3): 2, (2, 3): 2, (3, 3): 2}, 1)
        self.rates("legs", 2, ["3", "3"], ["3 out 1", "void"], {
            (1, 1): 100, (1, 2): 100, (1, 3): 100, (3, 1): 2, (3, 2): 2, (3, 3): 2}, 1)

    def test_couples(self):
        races = ["5 couple 1 4 couple 2 5", "4 couple 1 3"]
        self.rates("legs", 2, races, ["5 2", "3 2"], {(2, 1): 2, (1, 1): 1, (3, 1): 1, (2, 2): 1, (2, 4): 1}, 0)
        self.rates("legs", 2, races, ["3=4 1", "1=3"], {(1, 1): 2, (3, 1): 2, (2, 1): 1, (2, 2): 0, (2, 4): 0}, 1)

    def test_couple_of_which_some_are_out(self):
        races = ["5 couple 1 4 couple 2 5", "4 couple 1 3"]
        self.rates("legs", 2, races, ["4 out 1", "2 out 3"], {(1, 2): 2, (1, 1): 1, (3, 2): 1, (3, 1): 0})
        self.rates("legs", 2, races, ["3 out 1,4", "2 out 1"], {(1, 2): 100, (1, 1): 100, (3, 2): 2, (3, 1): 1, (2, 1): 0})

    def test_one_interest_alone(self):
        self.rates("legs", 2, ["2 couple 1 2", "2 couple 1 2"], ["2", "1"], {(1, 1): 2})
        self.rates("legs", 2, ["2 couple 1 2", "3"], ["2 out 1", "void"], {}, 2)

    def test_six(self):
        arrivals = ["1", "2", "1=2", "void", "2 out 1", "1 2"]
        self.rates("legs", 6, ["2"] * 6, arrivals, {
            (1, 2, 1, 1, 2, 1): 6, (1, 2, 2, 2, 2, 1): 6, (1, 2, 1, 1, 2, 2): 5, (2, 1, 1, 1, 2, 2): 3,
            (1, 2, 1, 1, 1, 1): 100, (2, 1, 2, 2, 1, 2): 100})


class OfItsOwnRaces(unittest.TestCase):
    RACES = ["2", "4", "3", "5 couple 1 2", "6"]

    def rates(self, kind, k, first, arrivals, row, expected):
        legs = k if kind == "legs" else 1
        number = rows_of(kind, k, self.RACES[first - 1:first - 1 + legs]).index(row)
        card = as_bytes(card_of(kind, k, self.RACES, first))
        with self.subTest(kind=kind, first=first, arrivals=arrivals):
            self.assertEqual(right(0, number, card, as_bytes(result_of(arrivals))), [0, expected])

    def test_race_that_it_is_from(self):
        arrivals = ["1", "3 4", "1 3", "5 2 out 1", "void"]
        self.rates("place", 1, 1, arrivals, (1,), 1)
        self.rates("place", 1, 2, arrivals, (3,), 1)
        self.rates("place", 1, 3, arrivals, (3,), 0)
        self.rates("place", 1, 4, arrivals, (5,), 1)
        self.rates("place", 1, 5, arrivals, (5,), 100)
        self.rates("order", 2, 2, arrivals, (3, 4), 2)
        self.rates("order", 2, 4, arrivals, (5, 1), 2)
        self.rates("any", 2, 3, arrivals, (1, 3), 2)
        self.rates("legs", 2, 1, arrivals, (1, 3), 2)
        self.rates("legs", 3, 2, arrivals, (3, 1, 5), 3)
        self.rates("legs", 4, 2, arrivals, (3, 1, 4, 6), 3)

    def test_other_races_are_open(self):
        self.rates("place", 2, 2, [None, "3 4"], (4,), 1)
        self.rates("order", 2, 4, [None, None, None, "5 2"], (5, 1), 2)
        self.rates("any", 2, 3, [None, None, "void"], (1, 3), 100)
        self.rates("legs", 2, 2, [None, "3", "1"], (3, 1), 2)
