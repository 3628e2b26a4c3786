"""judge: which text is a card."""

import unittest

from raceresults.results import judge
from support import CARD, POOL, as_bytes


def judged(card, result=""):
    return judge(as_bytes(card), as_bytes(result))


def with_race(line):
    return "day d\n" + line + "\n"


def with_pool(line, races=("race 6", "race 4", "race 2")):
    return "day d\n" + "".join(race + "\n" for race in races) + line + "\n"


def pool(name="p", kind="order", k="2", race="1", take="150", brk="10", least="0", unit="100", none="refund"):
    return (f"pool {name} {kind} {k} from {race} take {take} break {brk} "
            f"least {least} unit {unit} none {none}")


class Cards(unittest.TestCase):
    def takes(self, *cards):
        for card in cards:
            with self.subTest(card=card):
                self.assertEqual(judged(card), [0])

    def refuses(self, *cards):
        for card in cards:
            with self.subTest(card=card):
                self.assertEqual(judged(card), [-8])

    def takes_pools(self, **each):
        for part, values in each.items():
            for value in values:
                self.takes(with_pool(pool(**{part: value})))

    def refuses_pools(self, **each):
        for part, values in each.items():
            for value in values:
                self.refuses(with_pool(pool(**{part: value})))


class WholeCards(Cards):
    def test_ordinary(self):
        self.takes(CARD, with_race("race 5"), with_pool(pool()))

    def test_nothing_and_parts(self):
        self.refuses("", "\n", "day d", "day d\n", "race 2\n", "day d\nrace 2", "day d\n" + POOL)
        self.refuses("race 2\nday d\n", "day d\nday d\nrace 2\n", "day d\nrace 2\nday d\n")

    def test_cut_anywhere_behind_the_first_race(self):
        ends = [at for at in range(len(CARD)) if CARD[at] == "\n"]
        for length in range(len(CARD)):
            whole = length - 1 in ends[1:]
            # Pools come last, so that whole lines from the first race on are a card by themselves.
            self.assertEqual(judged(CARD[:length]), [0] if whole else [-8], length)

    def test_pools_stand_behind_races(self):
        self.refuses("day d\nrace 2\n" + POOL + "race 2\n")
        self.refuses("day d\n" + POOL + "race 2\n")

    def test_unknown_and_empty_lines(self):
        self.refuses("day d\nrace 2\n\n", "\nday d\nrace 2\n", "day d\n\nrace 2\n")
        self.refuses("day d\nrace 2\nrun 2\n", "day d\nraces 2\n", "Day d\nrace 2\n", "day d\nRace 2\n")

    def test_blanks(self):
        self.refuses(" day d\nrace 2\n", "day  d\nrace 2\n", "day d \nrace 2\n", "day d\n race 2\n")
        self.refuses("day d\nrace 2 \n", "day d\nrace  2\n", "day d\nrace\t2\n", "day d\nrace 2\r\n")
        self.refuses("day d\nrace 2\n" + POOL.replace(" from", "  from"))
        self.refuses("day d\nrace 2\n" + POOL.replace("\n", " \n"))

    def test_words_too_many_or_missing(self):
        self.refuses("day\nrace 2\n", "day d e\nrace 2\n", "day d\nrace\n", "day d\nrace 2 2\n", "day d\nrace 2 couple\n")
        words = pool().split(" ")
        for at in range(len(words)):
            self.refuses(with_pool(" ".join(words[:at] + words[at + 1:])))
            self.refuses(with_pool(" ".join(words[:at] + ["x"] + words[at:])))
            self.refuses(with_pool(" ".join(words[:at])))

    def test_set_words(self):
        words = pool().split(" ")
        for at in (0, 2, 4, 6, 8, 10, 12, 14, 15):
            for other in ("x", "", "form", words[at].upper(), words[at] + "s"):
                self.refuses(with_pool(" ".join(words[:at] + [other] + words[at + 1:])))
        self.refuses(with_pool(pool().replace("take 150 break 10", "break 10 take 150")))

    def test_strange_bytes(self):
        card = as_bytes(with_pool(pool()))
        for at in range(len(card)):
            for byte in (0, 9, 13, 31, 63, 127, 128, 160, 255):
                self.assertEqual(judge(card[:at] + [byte] + card[at + 1:], []), [-8], (at, byte))

    def test_how_many_races(self):
        self.takes("day d\n" + "race 2\n", "day d\n" + "race 2\n" * 16)
        self.refuses("day d\n", "day d\n" + "race 2\n" * 17, "day d\n" + "race 2\n" * 300)

    def test_how_many_pools(self):
        pools = [pool(name="p" + str(at)) + "\n" for at in range(65)]
        self.takes("day d\nrace 2\n" + "".join(pools[:64]))
        self.refuses("day d\nrace 2\n" + "".join(pools))

    def test_pools_of_one_name(self):
        self.refuses("day d\nrace 2\n" + POOL + POOL)
        self.refuses("day d\nrace 2\n" + POOL + POOL.replace(" p ", " q ") + POOL.replace("150", "151"))
        self.takes("day p\nrace 2\n" + POOL, "day d\nrace 2\n" + POOL + POOL.replace(" p ", " pp "))


class Names(Cards):
    def test_lengths(self):
        self.takes("day a\nrace 2\n", "day abcdefghij12\nrace 2\n")
        self.refuses("day \nrace 2\n", "day abcdefghij123\nrace 2\n")
        self.takes_pools(name=("a", "abcdefghij12"))
        self.refuses_pools(name=("", "abcdefghij123"))

    def test_signs(self):
        for name in ("z", "az09", "a0", "day", "pool", "z9z9"):
            self.takes(f"day {name}\nrace 2\n", with_pool(pool(name=name)))
        for name in ("0", "9a", "A", "aB", "a-b", "a_b", "a=", "a,b", "a/b", "a:b", "`a", "a{", "a.", "?"):
            self.refuses(f"day {name}\nrace 2\n", with_pool(pool(name=name)))


class Races(Cards):
    def test_runners(self):
        self.takes(with_race("race 2"), with_race("race 9"), with_race("race 10"), with_race("race 24"))
        self.refuses(with_race("race 1"), with_race("race 25"), with_race("race 0"), with_race("race 100"))

    def test_numbers(self):
        for word in ("02", "+2", "-2", "2.0", "two", "2x", "x2", "2=3", "2,3", "", "1" * 60000, "0" * 60000 + "2"):
            self.refuses(with_race("race " + word))

    def test_couples(self):
        self.takes(with_race("race 4 couple 1 4"), with_race("race 4 couple 3 4 couple 1 2"))
        self.takes(with_race("race 4 couple 1 4 couple 1 2"), with_race("race 4 couple 1 2 couple 1 3 couple 1 4"))

    def test_couples_out_of_bounds(self):
        self.refuses(with_race("race 4 couple 0 2"), with_race("race 4 couple 4 5"), with_race("race 4 couple 1 5"))
        self.refuses(with_race("race 4 couple 01 2"), with_race("race 4 couple 1 x"), with_race("race 4 couple x 2"))

    def test_a_is_below_b(self):
        self.refuses(with_race("race 4 couple 2 2"), with_race("race 4 couple 3 2"))

    def test_a_is_no_b_before(self):
        self.refuses(with_race("race 4 couple 1 2 couple 2 3"))
        self.refuses(with_race("race 6 couple 1 2 couple 3 4 couple 2 6"))

    def test_b_is_in_none_before(self):
        self.refuses(with_race("race 4 couple 1 2 couple 1 2"), with_race("race 4 couple 1 3 couple 2 3"))
        self.refuses(with_race("race 4 couple 2 3 couple 1 2"), with_race("race 6 couple 3 4 couple 5 6 couple 1 3"))

    def test_couples_of_one_line_alone(self):
        self.takes("day d\nrace 4 couple 1 2\nrace 4 couple 2 3\n", "day d\nrace 4 couple 2 3\nrace 4 couple 1 2\n")

    def test_how_many_couples(self):
        eight = "race 24" + "".join(f" couple {at} {at + 1}" for at in range(1, 17, 2))
        self.takes(with_race(eight), with_race("race 9" + "".join(f" couple 1 {b}" for b in range(2, 10))))
        self.refuses(with_race(eight + " couple 17 18"))
        self.refuses(with_race("race 24" + "".join(f" couple 1 {b}" for b in range(2, 11))))

    def test_words_of_couples(self):
        self.refuses(with_race("race 4 couple 1"), with_race("race 4 couple 1 2 3"), with_race("race 4 1 2"))
        self.refuses(with_race("race 4 pair 1 2"), with_race("race 4 couple 1 2 couple"), with_race("race 4 couples 1 2"))


class Pools(Cards):
    def test_take(self):
        self.takes_pools(take=("0", "1", "399", "400"))
        self.refuses_pools(take=("401", "1000", "-1", "00", "0150", "x", "1" * 5000))

    def test_break(self):
        self.takes_pools(brk=("1", "999", "1000"))
        self.refuses_pools(brk=("0", "1001", "-1", "01", "x", "9" * 5000))

    def test_unit(self):
        self.takes_pools(unit=("1", "9999", "10000"))
        self.refuses_pools(unit=("0", "10001", "-1", "01", "x", "9" * 5000))

    def test_least(self):
        self.takes_pools(least=("0", "100", "101", "199", "200"))
        self.refuses_pools(least=("1", "99", "201", "-1", "00", "0100", "x"))
        for unit in (1, 7, 10000):
            self.takes(*[with_pool(pool(least=str(least), unit=str(unit))) for least in (0, unit, 2 * unit)])
            self.refuses(with_pool(pool(least=str(2 * unit + 1), unit=str(unit))))
        self.refuses(with_pool(pool(least="6", unit="7")), with_pool(pool(least="9999", unit="10000")))

    def test_none(self):
        self.takes_pools(none=("refund", "carry", "fewer"))
        self.refuses_pools(none=("none", "0", "Fewer"))

    def test_fewer_is_not_of_place(self):
        for kind in ("order", "any", "legs"):
            self.takes(with_pool(pool(kind=kind, none="fewer")))
        self.takes(with_pool(pool(kind="place", none="refund")), with_pool(pool(kind="place", none="carry")))
        self.refuses(with_pool(pool(kind="place", none="fewer")))

    def test_bounds_of_k(self):
        races = ["race 24"] * 16
        for kind, low, high in (("place", 1, 4), ("order", 2, 4), ("any", 2, 3), ("legs", 2, 6)):
            for k in range(low, high + 1):
                self.takes(with_pool(pool(kind=kind, k=str(k)), races))
            for k in (low - 1, high + 1, 10, 99):
                self.refuses(with_pool(pool(kind=kind, k=str(k)), races))
            self.refuses(with_pool(pool(kind=kind, k="02"), races), with_pool(pool(kind=kind, k="x"), races))

    def test_kinds(self):
        self.refuses_pools(kind=("win", "leg", "Order", "2", "from"))

    def test_race(self):
        self.takes_pools(race=("1", "2", "3"))
        self.refuses_pools(race=("0", "4", "01", "x", "16"))
        self.takes(with_pool(pool(race="16"), ["race 2"] * 16))
        self.refuses(with_pool(pool(race="17"), ["race 2"] * 16))

    def test_races_of_legs(self):
        races = ["race 2"] * 7
        for k in range(2, 7):
            self.takes(with_pool(pool(kind="legs", k=str(k), race=str(8 - k)), races))
            self.refuses(with_pool(pool(kind="legs", k=str(k), race=str(9 - k)), races))
        self.refuses(with_pool(pool(kind="legs", k="2", race="7"), races))
        self.refuses(with_pool(pool(kind="legs", k="2", race="0"), races))
        self.refuses(with_pool(pool(kind="legs", k="2", race="1"), races[:1]))
        self.refuses(with_pool(pool(kind="legs", k="6", race="1"), races[:2]))

    def test_interests(self):
        for kind, highest in (("place", 4), ("order", 4), ("any", 3)):
            for k in range(2, highest + 1):
                line = pool(kind=kind, k=str(k))
                enough = "race " + str(k)
                coupled = "race " + str(k + 1) + " couple 1 " + str(k + 1)
                self.takes(with_pool(line, [enough]), with_pool(line, [coupled]))
                if k > 2:
                    self.refuses(with_pool(line, ["race " + str(k - 1)]))
                self.refuses(with_pool(line, [enough + " couple 1 2"]))

    def test_interests_of_its_own_race(self):
        races = ["race 24", "race 3", "race 24"]
        self.refuses(with_pool(pool(kind="order", k="4", race="2"), races))
        self.takes(with_pool(pool(kind="order", k="3", race="2"), races))
        self.takes(with_pool(pool(kind="order", k="4", race="3"), races))

    def test_one_interest_is_enough_for_place_1_and_legs(self):
        one = "race 2 couple 1 2"
        self.takes(with_pool(pool(kind="place", k="1"), [one]))
        self.refuses(with_pool(pool(kind="place", k="2"), [one]))
        self.takes(with_pool(pool(kind="legs", k="6"), [one] * 6))


class Length(Cards):
    def test_longest(self):
        self.assertEqual(judge(as_bytes(CARD) + [10] * (65536 - len(CARD)), []), [-8])
        self.assertEqual(judge([10] * 65536, []), [-8])
        self.assertEqual(judge([10] * 65537, []), [-2])
        self.assertEqual(judge(as_bytes(CARD) + [10] * (65537 - len(CARD)), []), [-2])
        self.assertEqual(judge([0] * 66000, []), [-2])

    def test_long_lines(self):
        self.refuses("day d\nrace 2" + " couple 1 2" * 5900 + "\n", "day d\n" + "race 2\n" * 9300)
        self.refuses("day " + "a" * 65000 + "\nrace 2\n", "day d\nrace " + " " * 65000 + "\n")
        self.refuses("day d\nrace 2\n" + POOL * 900)
