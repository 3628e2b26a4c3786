"""told: whether all races of a pool are told."""

import itertools
import unittest

from raceresults.results import told
from support import CARD, HIGHEST, as_bytes

# The races that each pool of CARD is from, in the order of its lines.
RACES_OF_POOLS = ((1,), (1,), (2,), (3,), (4,), (5,), (5, 6), (1, 2, 3, 4, 5, 6))


def asked(pool, result, card=CARD):
    return told(pool, as_bytes(card), as_bytes(result))


def result_with(states):
    lines = {"open": "", "void": "void", "came": "came 2 1", "heat": "came 1=2", "out": "came 2 out 1"}
    return "".join(f"race {race} {lines[states[race]]}\n" for race in sorted(states) if lines[states[race]])


def every_race(state, *others):
    states = {race: state for race in range(1, 7)}
    states.update(others)
    return states


class Told(unittest.TestCase):
    # Of CARD: the pools that are told, all others aren't.
    def tells(self, result, *pools):
        for pool in range(8):
            with self.subTest(result=result, pool=pool):
                self.assertEqual(asked(pool, result), [0, 1 if pool in pools else 0])


class OneRace(Told):
    def test_no_bytes(self):
        self.tells("")

    def test_each_race_alone(self):
        for line in ("void", "came 1", "came 2 1", "came 1=2", "came 2 out 1"):
            self.tells(f"race 1 {line}\n", 0, 1)
            self.tells(f"race 2 {line}\n", 2)
            self.tells(f"race 3 {line}\n", 3)
            self.tells(f"race 4 {line}\n", 4)
            self.tells(f"race 5 {line}\n", 5)
            self.tells(f"race 6 {line}\n")

    def test_each_race_open_alone(self):
        for state in ("void", "came", "heat", "out"):
            self.tells(result_with(every_race(state, (1, "open"))), 2, 3, 4, 5, 6)
            self.tells(result_with(every_race(state, (2, "open"))), 0, 1, 3, 4, 5, 6)
            self.tells(result_with(every_race(state, (3, "open"))), 0, 1, 2, 4, 5, 6)
            self.tells(result_with(every_race(state, (4, "open"))), 0, 1, 2, 3, 5, 6)
            self.tells(result_with(every_race(state, (5, "open"))), 0, 1, 2, 3, 4)
            self.tells(result_with(every_race(state, (6, "open"))), 0, 1, 2, 3, 4, 5)

    def test_all_told(self):
        for state in ("void", "came", "heat", "out"):
            self.tells(result_with(every_race(state)), *range(8))

    def test_fewer_came_in_than_k(self):
        self.tells("race 3 came 7\n", 3)
        self.tells("race 4 came 1 out 2\n", 4)
        self.tells("race 2 came 1 out 2,3,4\n", 2)

    def test_each_state_of_each_race(self):
        for states in itertools.product(("open", "void", "came"), repeat=6):
            if states.count("open") in (0, 1, 3, 6):
                by_race = dict(zip(range(1, 7), states))
                pools = [pool for pool in range(8) if all(by_race[race] != "open" for race in RACES_OF_POOLS[pool])]
                self.tells(result_with(by_race), *pools)


class Legs(Told):
    def card(self, k, first, races=8):
        pool = f"pool p legs {k} from {first} take 0 break 1 least 0 unit 1 none carry\n"
        return "day d\n" + "race 3\n" * races + pool

    def test_one_open(self):
        for k in range(2, 7):
            for first in range(1, 10 - k):
                legs = range(first, first + k)
                for race in range(1, 9):
                    states = {other: "came" if other % 2 else "void" for other in range(1, 9)}
                    states[race] = "open"
                    with self.subTest(k=k, first=first, race=race):
                        expected = [0, 0 if race in legs else 1]
                        self.assertEqual(asked(0, result_with(states), self.card(k, first)), expected)

    def test_its_own_races_alone_are_told(self):
        for k in range(2, 7):
            for first in range(1, 10 - k):
                for state in ("came", "void", "heat"):
                    states = {race: state for race in range(first, first + k)}
                    self.assertEqual(asked(0, result_with(states), self.card(k, first)), [0, 1])

    def test_races_outside_alone_are_told(self):
        for first in (1, 3, 6):
            states = {race: "came" for race in range(1, 9) if not first <= race < first + 3}
            self.assertEqual(asked(0, result_with(states), self.card(3, first)), [0, 0])

    def test_void_among_them(self):
        for states in itertools.product(("void", "came"), repeat=3):
            result = result_with(dict(zip((2, 3, 4), states)))
            self.assertEqual(asked(0, result, self.card(3, 2)), [0, 1])
            self.assertEqual(asked(0, result, self.card(4, 2)), [0, 0])
            self.assertEqual(asked(0, result, self.card(4, 1)), [0, 0])

    def test_last_of_sixteen(self):
        card = self.card(6, 11, 16)
        lines = [f"race {race} void\n" for race in range(11, 17)]
        self.assertEqual(asked(0, "".join(lines), card), [0, 1])
        self.assertEqual(asked(0, "".join(lines[:5]), card), [0, 0])
        self.assertEqual(asked(0, "".join(lines[1:]), card), [0, 0])


class Refused(Told):
    def test_no_such_pool(self):
        for result in ("", result_with(every_race("came")), result_with(every_race("void"))):
            for pool in (8, 9, 63, 64, 65535, 65536, HIGHEST):
                self.assertEqual(asked(pool, result), [-4])
        self.assertEqual(asked(0, "race 1 void\n"), [0, 1])
        self.assertEqual(asked(7, "race 1 void\n"), [0, 0])

    def test_no_pools(self):
        for pool in (0, 1, HIGHEST):
            for result in ("", "race 1 void\n", "race 1 came 2\n"):
                self.assertEqual(asked(pool, result, "day d\nrace 2\n"), [-4])

    def test_sixty_four_pools(self):
        card = "day d\nrace 2\nrace 2\n"
        for at in range(64):
            card += f"pool p{at} place 1 from {1 if at < 63 else 2} take 0 break 1 least 0 unit 1 none carry\n"
        self.assertEqual(asked(62, "race 1 void\n", card), [0, 1])
        self.assertEqual(asked(63, "race 1 void\n", card), [0, 0])
        self.assertEqual(asked(62, "race 2 void\n", card), [0, 0])
        self.assertEqual(asked(63, "race 2 void\n", card), [0, 1])
        self.assertEqual(asked(64, "race 1 void\nrace 2 void\n", card), [-4])

    def test_numbers_go_by_lines(self):
        card = "day d\nrace 2\nrace 2\n"
        for name, race in (("z", 1), ("a", 2), ("m", 1)):
            card += f"pool {name} place 1 from {race} take 0 break 1 least 0 unit 1 none carry\n"
        self.assertEqual([asked(pool, "race 1 void\n", card) for pool in range(4)], [[0, 1], [0, 0], [0, 1], [-4]])
