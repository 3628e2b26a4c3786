"""judge: which text is a result of a card, and else its first fault."""

import unittest

from raceresults.results import judge
from support import CARD, NO_CARD, as_bytes

FIRST = "race 1 came 1\n"


def judged(result, card=CARD):
    return judge(as_bytes(card), as_bytes(result))


class Results(unittest.TestCase):
    def takes(self, *results):
        for result in results:
            with self.subTest(result=result):
                self.assertEqual(judged(result), [0])

    # The place is told by a mark ^ ahead of the faulty byte, so that no test counts bytes by hand.
    def finds(self, kind, *marked):
        for text in marked:
            for ahead in ("", FIRST):
                with self.subTest(text=text, ahead=ahead):
                    text_at = ahead + text.replace("race 1", "race 2") if ahead else text
                    place = text_at.index("^")
                    self.assertEqual(judged(text_at.replace("^", "", 1)), [-6, kind, place])


class Right(Results):
    def test_nothing(self):
        self.takes("")

    def test_void(self):
        self.takes("race 1 void\n", "race 6 void\n", "".join(f"race {at} void\n" for at in range(1, 7)))

    def test_came(self):
        self.takes("race 1 came 1\n", "race 1 came 8 7 6 5 4 3 2 1\n", "race 2 came 2 4\n")
        self.takes("race 5 came 24\n", "race 5 came " + " ".join(str(at) for at in range(24, 0, -1)) + "\n")

    def test_dead_heats(self):
        self.takes("race 1 came 1=2\n", "race 1 came 3 1=2=8 4\n", "race 1 came 1=2=3=4=5=6=7=8\n")
        self.takes("race 5 came 9=10 2=3=11 1\n")

    def test_out(self):
        self.takes("race 1 came 1 out 2\n", "race 1 came 3 1=2 out 4,5,8\n", "race 4 came 2 out 1\n")
        self.takes("race 5 came 9 out 2,10,11,24\n")

    def test_several_and_some_left_open(self):
        self.takes("race 1 came 3 1=2 out 4\nrace 2 void\nrace 3 came 12\nrace 6 came 1\n")
        self.takes("race 2 came 1\nrace 4 void\n", "race 6 void\n")

    def test_same_runners_in_other_lines(self):
        self.takes("race 1 came 1 2 out 3\nrace 2 came 1 2 out 3\n")

    def test_sixteen_races(self):
        card = "day d\n" + "race 24\n" * 16
        result = "".join(f"race {at} came 24 1=2 out 3,23\n" for at in range(1, 17))
        self.assertEqual(judged(result, card), [0])
        place = len(result) + len("race ")
        self.assertEqual(judged(result + "race 17 void\n", card), [-6, 4, place])


class Unended(Results):
    def test_unended(self):
        self.finds(1, "race 1 void^", "race 1 came 1^", "r^", "race 1 came 1 2=3 out 4^", "race^", " ^")

    def test_before_other_faults_of_its_line(self):
        self.finds(1, "  ^", "x  y^", "race 9 void^", "race 1 \x00^", "race 1 came^", "race 1 came 9=1 ^")

    def test_behind_lines_before(self):
        self.assertEqual(judged("race 1 came 1\nrace 2"), [-6, 1, 20])
        self.assertEqual(judged("race 7 void\nrace 2"), [-6, 4, 5])


class Bytes(Results):
    def test_strange_bytes(self):
        for byte in (0, 9, 11, 13, 31, 127, 128, 160, 255):
            sign = chr(byte)
            self.finds(2, "^" + sign + "\n", "race 1 void^" + sign + "\n", "ra^" + sign + "ce 1 void\n")
            self.finds(2, "race^" + sign + "1 void\n", "race 1 came 1=^" + sign + "2\n")

    def test_signs_at_the_bounds_are_no_such_bytes(self):
        self.finds(3, "race 1 ^~\n", "race 1 ^!\n", "^~ \x7e\n")

    def test_blanks(self):
        self.finds(2, "^ race 1 void\n", "race ^ 1 void\n", "race 1 void^ \n", "race 1 void ^ \n")
        self.finds(2, "^ \n", "^  \n", "race 1 came 1 ^ 2\n", "race 1 came^ \n")

    def test_empty_lines(self):
        self.finds(2, "^\n", "^\nrace 1 void\n", "^\n\n")
        self.assertEqual(judged("race 1 void\n\nrace 2 void\n"), [-6, 2, 12])
        self.assertEqual(judged("race 1 void\n\n"), [-6, 2, 12])

    def test_first_of_several(self):
        self.finds(2, "^ a\x00\n", "a^\x00 b\n", "a ^  \x01\n", "a^\x7f  \n", "a ^ b \n")

    def test_before_words(self):
        self.finds(2, "rice 99 void^ \n", "race 99 void^\x00\n", "race 1 came ^ 9\n", "x y ^ z\n")


class Words(Results):
    def test_first_word(self):
        self.finds(3, "^rac 1 void\n", "^races 1 void\n", "^Race 1 void\n", "^1 void\n", "^void\n", "^x\n", "^? 1 void\n")

    def test_void_or_came(self):
        self.finds(3, "race 1 ^voids\n", "race 1 ^out\n", "race 1 ^1\n", "race 1 ^race\n", "race 1 ^Came 1\n")

    def test_missing(self):
        self.finds(3, "race^\n", "race 1^\n", "race 1 came^\n", "race 1 came 1 out^\n", "race 1 came 1=2 3 out^\n")

    def test_behind_void(self):
        self.finds(3, "race 1 void ^void\n", "race 1 void ^1\n", "race 1 void ^came 1\n", "race 1 void ^out 1\n")

    def test_behind_the_set(self):
        self.finds(3, "race 1 came 1 out 2 ^3\n", "race 1 came 1 out 2 ^out 3\n", "race 1 came 1 out 2,3 ^x y\n")


class Numbers(Results):
    def test_race_number_is_none(self):
        self.finds(4, "race ^x void\n", "race ^01 void\n", "race ^+1 void\n", "race ^-1 void\n", "race ^1= void\n")
        self.finds(4, "race ^void\n", "race ^came 1\n", "race ^1,2 void\n", "race ^race 1 void\n", "race ^? void\n")

    def test_race_number_out_of_bounds(self):
        self.finds(4, "race ^0 void\n", "race ^7 void\n", "race ^10 void\n", "race ^" + "1" * 9000 + " void\n")

    def test_race_not_above(self):
        self.assertEqual(judged("race 2 void\nrace 2 void\n"), [-6, 4, 17])
        self.assertEqual(judged("race 2 void\nrace 1 void\n"), [-6, 4, 17])
        self.assertEqual(judged("race 1 void\nrace 5 void\nrace 3 void\n"), [-6, 4, 29])
        self.assertEqual(judged("race 1 void\nrace 1\n"), [-6, 4, 17])

    def test_number_goes_before_void_or_came(self):
        self.finds(4, "race ^7 what\n", "race ^7\n", "race ^x came 99\n")
        self.assertEqual(judged("race 2 void\nrace 2 what\n"), [-6, 4, 17])

    def test_runner_is_none_of_the_race(self):
        self.finds(4, "race 1 came ^0\n", "race 1 came ^9\n", "race 1 came 1 ^9=10\n", "race 1 came ^0=1\n")
        self.finds(4, "race 1 came ^1=9\n", "race 1 came 1 out ^9\n", "race 1 came 1 out ^0\n", "race 1 came 1 out ^2,9\n")
        self.finds(4, "race 1 came ^01\n", "race 1 came ^x\n", "race 1 came ^1=x\n", "race 1 came 1 out ^02\n")
        self.finds(4, "race 1 came ^" + "9" * 9000 + "\n", "race 1 came 1 out ^2," + "9" * 9000 + "\n")

    def test_runners_of_its_own_race(self):
        self.assertEqual(judged("race 1 came 8\nrace 2 came 5\n"), [-6, 4, 26])
        self.assertEqual(judged("race 2 came 4\nrace 3 came 5 12\n"), [0])
        self.assertEqual(judged("race 3 came 12 13\n"), [-6, 4, 15])

    def test_not_rising(self):
        self.finds(4, "race 1 came ^2=1\n", "race 1 came ^1=3=2\n", "race 1 came 4 ^1=1\n", "race 1 came ^1=2=2\n")
        self.finds(4, "race 1 came 1 out ^3,2\n", "race 1 came 1 out ^2,4,3\n", "race 1 came 1 out ^2,2\n")
        self.assertEqual(judged("race 5 came 10=9\n"), [-6, 4, 12])
        self.assertEqual(judged("race 5 came 9=10\n"), [0])

    def test_runner_is_in_the_line_before(self):
        self.finds(4, "race 1 came 1 ^1\n", "race 1 came 1 2 ^1\n", "race 1 came 1=2 ^2=3\n", "race 1 came 3 ^1=2=3\n")
        self.finds(4, "race 1 came 1 out ^1\n", "race 1 came 1=4 2 out ^3,4\n", "race 1 came 1 2 out ^2\n")

    def test_signs_that_stand_wrong(self):
        self.finds(4, "race 1 came ^=1\n", "race 1 came ^1=\n", "race 1 came ^1==2\n", "race 1 came ^=\n")
        self.finds(4, "race 1 came ^1,2\n", "race 1 came ^1=2,3\n", "race 1 came 3 ^,\n", "race 1 came ^1-2\n")
        self.finds(4, "race 1 came 1 out ^,2\n", "race 1 came 1 out ^2,\n", "race 1 came 1 out ^2,,3\n")
        self.finds(4, "race 1 came 1 out ^2=3\n", "race 1 came 1 out ^2,3=4\n", "race 1 came 1 out ^,\n")

    def test_any_word_is_looked_at_as_a_group(self):
        self.finds(4, "race 1 came ^void\n", "race 1 came 1 ^void\n", "race 1 came 1 ^came\n", "race 1 came 1 ^outs\n")
        self.finds(4, "race 1 came 1 ^race 2\n", "race 1 came 1 ^Out 2\n", "race 1 came 1 ^x out 3\n", "race 1 came 1 ^?\n")

    def test_out_where_the_first_group_is_due(self):
        self.finds(4, "race 1 came ^out\n", "race 1 came ^out 1\n", "race 1 came ^out 1,2\n")

    def test_any_word_is_looked_at_as_a_set(self):
        self.finds(4, "race 1 came 1 out ^out\n", "race 1 came 1 out ^void\n", "race 1 came 1 out ^x y\n")
        self.finds(4, "race 1 came 1 out ^1=2 3\n")


class Order(Results):
    def test_first_met_of_a_line(self):
        self.finds(3, "^x 99 nor\n", "race 1 ^nor 99\n", "race 1 void ^99 x\n")
        self.finds(4, "race ^99 nor\n", "race 1 came ^9 10 out\n", "race 1 came 1 ^9 out\n", "race 1 came 1 out ^1 3\n")

    def test_first_line_of_two(self):
        self.assertEqual(judged("race 1 came 1=1\n\n"), [-6, 4, 12])
        self.assertEqual(judged("rice\n race 1 void\nrace"), [-6, 3, 0])
        self.assertEqual(judged("race 1 void \nrace 2 what\n"), [-6, 2, 11])
        self.assertEqual(judged("race 1 nor\nrace 2 void\x00\nr"), [-6, 3, 7])

    def test_no_card_goes_before_a_fault(self):
        for card in ("", NO_CARD, CARD[:-1]):
            for result in ("", "x", "race 1 void\n", "\n"):
                self.assertEqual(judged(result, card), [-8])

    def test_too_long_goes_first(self):
        long = [120] * 65537
        for other in ("", NO_CARD, CARD, "x"):
            self.assertEqual(judge(as_bytes(other), long), [-2])
            self.assertEqual(judge(long, as_bytes(other)), [-2])
        self.assertEqual(judge(long, long), [-2])

    def test_longest_result(self):
        for length in (65535, 65536):
            self.assertEqual(judge(as_bytes(CARD), [120] * length), [-6, 1, length])
            self.assertEqual(judge(as_bytes(CARD), [10] * length), [-6, 2, 0])
        self.assertEqual(judge(as_bytes(CARD), [10] * 65537), [-2])
        self.assertEqual(judge(as_bytes(CARD), [10] * 66000), [-2])
        self.assertEqual(judge(as_bytes(NO_CARD), [120] * 65536), [-8])

    def test_long_words_and_lines(self):
        self.finds(4, "race 1 came ^1=2" + "=3" * 30000 + "\n", "race 1 came 1 ^1" + " 1" * 30000 + "\n")
        self.finds(3, "race 1 came 1 out 2" + " ^3" + " 4" * 30000 + "\n")


class Handed(Results):
    def test_nothing_is_changed_or_kept(self):
        results = ("", "race 1 came 3 1=2 out 4\nrace 2 void\n", "race 1 came 1=1\n", "race 1", "\n", "x" * 65537)
        for card in (CARD, NO_CARD):
            for result in results:
                card_bytes, result_bytes = as_bytes(card), as_bytes(result)
                first = judge(card_bytes, result_bytes)
                self.assertEqual((card_bytes, result_bytes), (as_bytes(card), as_bytes(result)))
                first.append(7)
                judge(as_bytes("day d\nrace 2\n"), as_bytes("race 1 void\n"))
                self.assertEqual(judge(card_bytes, result_bytes), first[:-1])

    def test_kinds(self):
        for result in ("", "race 1 came 1=1\n", "x", "\n"):
            answer = judged(result)
            self.assertIs(type(answer), list)
            self.assertTrue(all(type(number) is int for number in answer))
