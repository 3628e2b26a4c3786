"""came: how one race came in, class by class."""

import random
import unittest

from raceresults.results import came
from support import CARD, HIGHEST, as_bytes


def told(race, result, card=CARD):
    return came(race, as_bytes(card), as_bytes(result))


def row(*classes):
    answer = [0, 1, len(classes)]
    for heads in classes:
        answer += [len(heads)] + heads
    return answer


class Came(unittest.TestCase):
    # Race 1 of a card with this one race line.
    def came_in(self, race_line, arrival, *classes):
        card = "day d\nrace " + race_line + "\n"
        with self.subTest(race_line=race_line, arrival=arrival):
            self.assertEqual(told(1, "race 1 came " + arrival + "\n", card), row(*classes))


class States(Came):
    def test_open(self):
        self.assertEqual(told(1, ""), [0, 0])
        self.assertEqual(told(3, "race 2 void\nrace 4 came 1\n"), [0, 0])

    def test_void(self):
        self.assertEqual(told(1, "race 1 void\n"), [0, 2])
        self.assertEqual(told(6, "race 1 came 1\nrace 6 void\n"), [0, 2])

    def test_each_race_of_a_result(self):
        result = "race 1 came 3 4\nrace 2 void\nrace 3 came 11 5=6 out 12\nrace 5 void\nrace 6 came 6\n"
        self.assertEqual(told(1, result), row([1], [4], [5, 6, 7]))
        self.assertEqual(told(2, result), [0, 2])
        self.assertEqual(told(3, result), row([2], [5, 6], [1, 3, 4, 7, 8, 9, 10]))
        self.assertEqual(told(4, result), [0, 0])
        self.assertEqual(told(5, result), [0, 2])
        self.assertEqual(told(6, result), row([6], [1, 2, 3, 4, 5]))

    def test_last_of_sixteen(self):
        card = "day d\n" + "race 3\n" * 16
        self.assertEqual(told(16, "race 16 came 2\n", card), row([2], [1, 3]))
        self.assertEqual(told(1, "race 16 came 2\n", card), [0, 0])
        self.assertEqual(told(17, "race 16 came 2\n", card), [-1])


class Uncoupled(Came):
    def test_no_dead_heat(self):
        self.came_in("5", "3", [3], [1, 2, 4, 5])
        self.came_in("5", "3 5 1", [3], [5], [1], [2, 4])
        self.came_in("24", "24 1", [24], [1], list(range(2, 24)))

    def test_dead_heats(self):
        self.came_in("5", "2=4", [2, 4], [1, 3, 5])
        self.came_in("5", "4 1=2=5 3", [4], [1, 2, 5], [3], [])
        self.came_in("5", "1=5 2=4", [1, 5], [2, 4], [3])

    def test_out(self):
        self.came_in("5", "3 out 1", [3], [2, 4, 5])
        self.came_in("5", "3 2 out 1,5", [3], [2], [4])

    def test_all_came(self):
        self.came_in("4", "4 3 2 1", [4], [3], [2], [1], [])
        self.came_in("4", "1=2=3=4", [1, 2, 3, 4], [])

    def test_all_others_are_out(self):
        self.came_in("4", "2 out 1,3,4", [2], [])
        self.came_in("4", "2=3 out 1,4", [2, 3], [])


class Coupled(Came):
    RACE = "6 couple 1 4 couple 2 5"

    def test_head_stands_for_its_runners(self):
        self.came_in(self.RACE, "4", [1], [2, 3, 6])
        self.came_in(self.RACE, "1", [1], [2, 3, 6])
        self.came_in(self.RACE, "5 6", [2], [6], [1, 3])

    def test_one_is_out_and_the_other_came(self):
        self.came_in(self.RACE, "3 4 out 1", [3], [1], [2, 6])
        self.came_in(self.RACE, "3 1 out 4", [3], [1], [2, 6])

    def test_one_is_out_and_the_other_is_behind(self):
        self.came_in(self.RACE, "3 out 1", [3], [1, 2, 6])
        self.came_in(self.RACE, "3 out 4", [3], [1, 2, 6])

    def test_both_are_out(self):
        self.came_in(self.RACE, "3 out 1,4", [3], [2, 6])
        self.came_in(self.RACE, "3 out 1,2,4,5", [3], [6])
        self.came_in(self.RACE, "3 out 1,2,4,5,6", [3], [])

    def test_one_came_and_the_other_is_behind(self):
        self.came_in(self.RACE, "3 4 6", [3], [1], [6], [2])
        self.came_in(self.RACE, "1 3 6 2", [1], [3], [6], [2], [])

    def test_both_in_one_group(self):
        self.came_in(self.RACE, "1=4", [1], [2, 3, 6])
        self.came_in(self.RACE, "3 1=4=6", [3], [1, 6], [2])

    def test_both_in_two_groups(self):
        self.came_in(self.RACE, "3=4 1=6", [1, 3], [6], [2])
        self.came_in(self.RACE, "1=6 4=5", [1, 6], [2], [3])
        self.came_in(self.RACE, "5 3 2=6", [2], [3], [6], [1])

    def test_group_of_which_all_came_in_before(self):
        self.came_in(self.RACE, "1 4", [1], [], [2, 3, 6])
        self.came_in(self.RACE, "1=2 4=5 3", [1, 2], [], [3], [6])
        self.came_in(self.RACE, "4 1 5 2", [1], [], [2], [], [3, 6])

    def test_classes_rise_by_heads(self):
        self.came_in("6 couple 1 6 couple 2 5", "3=5=6", [1, 2, 3], [4])
        self.came_in("6 couple 1 6 couple 2 5", "4=6 3=5", [1, 4], [2, 3], [])

    def test_more_than_two_in_an_interest(self):
        race = "6 couple 1 3 couple 1 5"
        self.came_in(race, "5 2 3 1", [1], [2], [], [], [4, 6])
        self.came_in(race, "2 out 1,3", [2], [1, 4, 6])
        self.came_in(race, "2 out 1,3,5", [2], [4, 6])
        self.came_in(race, "2 5 out 1,3", [2], [1], [4, 6])

    def test_one_interest_alone(self):
        self.came_in("2 couple 1 2", "2", [1], [])
        self.came_in("2 couple 1 2", "2 1", [1], [], [])
        self.came_in("2 couple 1 2", "2 out 1", [1], [])


class Refused(Came):
    def test_no_such_race(self):
        for race in (0, 7, 17, 65536, HIGHEST):
            for result in ("", "race 1 came 1\nrace 6 void\n"):
                self.assertEqual(told(race, result), [-1])
        self.assertEqual(told(6, ""), [0, 0])
        self.assertEqual(told(2, "", "day d\nrace 2\n"), [-1])


class ByTheDocument(Came):
    """Races by chance, and each interest's standing asked by itself, from its own runners."""

    def standing(self, runners, groups, out):
        came_with = [at for at in range(len(groups)) if set(groups[at]) & set(runners)]
        if came_with:
            return min(came_with)
        return None if set(runners) <= set(out) else len(groups)

    def classes(self, interests, groups, out):
        found = [[] for group in groups] + [[]]
        for head in sorted(interests):
            at = self.standing(interests[head], groups, out)
            if at is not None:
                found[at].append(head)
        return found

    def test_by_chance(self):
        chance = random.Random(3)
        for turn in range(1500):
            count = chance.randrange(2, 25)
            interests = {runner: [runner] for runner in range(1, count + 1)}
            race_line = str(count)
            for couple in range(chance.randrange(9)):
                single = [head for head in interests if len(interests[head]) == 1 and head > min(interests)]
                if single:
                    b = chance.choice(single)
                    a = chance.choice([head for head in interests if head < b])
                    interests[a] += interests.pop(b)
                    race_line += f" couple {a} {b}"
            runners = list(range(1, count + 1))
            chance.shuffle(runners)
            groups = []
            while runners and (not groups or chance.randrange(4)):
                size = min(len(runners), chance.choice((1, 1, 1, 2, 3)))
                groups.append(sorted(runners.pop() for each in range(size)))
            out = sorted(runners[:chance.randrange(len(runners) + 1)])
            arrival = " ".join("=".join(map(str, group)) for group in groups)
            arrival += " out " + ",".join(map(str, out)) if out else ""
            self.came_in(race_line, arrival, *self.classes(interests, groups, out))
