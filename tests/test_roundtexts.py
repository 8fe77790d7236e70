"""[20]: texts of sets."""

import itertools
import re
import unittest

from anylead.errors import BadText, TooMany
from anylead.rounds import Rounds, all_counts, at_least, at_most, between, every, just, listed, none
from anylead.roundtexts import read_rounds, rounds_text
from helpers import FAR, form_of, raises, rng, some_rounds

T, F = True, False
NUMBER = "(?:0|-?[1-9][0-9]{0,5})"
STEP = "[1-9][0-9]{0,3}"
ITEM = f"{NUMBER}(?:\\.\\.{NUMBER}|[+-]{STEP})?"
TEXT = re.compile(f"none|all|{ITEM}(?:,{ITEM})*")
ENDINGS = ("", "0", "1", ".0", "..0", ",0", "all", "ll", "l", "none", "one", "ne", "e")


def column_plainly(text):
    """One more than the length of the longest beginning with which some text begins; None for a text."""
    if TEXT.fullmatch(text):
        return None
    for many in range(len(text), -1, -1):
        if any(TEXT.fullmatch(text[:many] + ending) for ending in ENDINGS):
            return many + 1
    return None


class Told(unittest.TestCase):
    def told(self, one, text):
        self.assertEqual(str(one), text)
        self.assertEqual(rounds_text(one), text)
        self.assertIs(type(rounds_text(one)), str)

    def test_texts(self):
        self.told(none(), "none")
        self.told(all_counts(), "all")
        self.told(just(0), "0")
        self.told(just(-12), "-12")
        self.told(between(3, 4), "3..4")
        self.told(between(-5, 5), "-5..5")
        self.told(listed((1, 2, 3, 5, 7, 8)), "1..3,5,7..8")
        self.told(at_least(3), "3+1")
        self.told(at_most(-3), "-3-1")
        self.told(every(2, 0), "-2-2,0+2")
        self.told(every(3, 2), "-1-3,2+3")
        self.told(every(3, 1) | every(3, 2), "-2-3,-1-3,1+3,2+3")
        self.told(~just(0), "-1-1,1+1")
        self.told(~just(0) | just(0), "all")
        self.told(~between(2, 4), "1-1,5+1")
        self.told(Rounds(6, (F, T, T), (F, T, T, F, T, F), (F, T, F, F, F)), "8-3,10-3,13+5")
        self.told(Rounds(6, (F, T, T), (T, T, F, F, T, F), (F, T, F, F, F)), "4-3,5-3,6..7,10,13+5")
        self.told(Rounds(0, (T, F), (), (F,)), "-2-2")
        self.told(Rounds(1, (F,), (T, F, T, T, F, F), (F, T)), "1,3..4,8+2")
        self.told(Rounds(1, (F,), (T, F, T, T), (F, T)), "1,3,4+2")
        self.told(Rounds(0, (F,), (T, T), (T, T, F)), "0..1,2+3,3+3")

    def test_far_numbers(self):
        self.told(just(FAR), str(FAR))
        self.told(between(-FAR, 1 - FAR), f"{-FAR}..{1 - FAR}")
        self.told(at_least(FAR) | just(FAR - 3), f"{FAR - 3},{FAR}+1")
        self.told(at_most(-FAR), f"{-FAR}-1")

    def test_the_text_has_just_the_members(self):
        chance = rng(71)
        for _ in range(200):
            one = some_rounds(chance)
            text = str(one)
            self.assertRegex(text, TEXT)
            members = set()
            for item in [] if text == "none" else ["0+1", "-1-1"] if text == "all" else text.split(","):
                first, sign, last = re.fullmatch("(-?[0-9]+)(?:(\\.\\.|[+-])(-?[0-9]+))?", item).groups()
                if sign == "+":
                    members |= set(range(int(first), 60, int(last)))
                elif sign == "-":
                    members |= set(range(int(first), -60, -int(last)))
                else:
                    members |= set(range(int(first), int(last or first) + 1))
            self.assertEqual(sorted(n for n in members if -50 <= n <= 50), list(one.members(-50, 50)))

    def test_seventy_thousand_truths_in_good_time(self):
        self.assertEqual(str(Rounds(0, (F,), (T, F) * 35000, (F,))).count(","), 34999)


class Read(unittest.TestCase):
    def test_texts_are_read_back(self):
        chance = rng(72)
        for _ in range(300):
            one = some_rounds(chance, chance.choice((0, 0, 999000, -999000)))
            self.assertEqual(form_of(read_rounds(rounds_text(one))), form_of(one))
        for one in (none(), all_counts(), just(999999), at_least(-999999), every(9999, 5), between(1, 20000)):
            self.assertEqual(read_rounds(str(one)), one)

    def test_great_texts_in_good_time(self):
        chance = rng(73)
        rows = [[chance.random() < 0.5 for _ in range(many)] for many in (5000, 9990, 5000)]
        one = Rounds(-9000, *rows)
        self.assertEqual(read_rounds(str(one)), one)
        items = [f"{chance.randint(-9999, 9999)}{chance.choice('+-')}{chance.choice((1, 2, 8, 32, 2500, 5000))}"
                 for _ in range(20000)]
        self.assertEqual(read_rounds(",".join(items + ["-5..9"] * 5000)), all_counts())

    def test_items_in_any_order_and_with_members_in_common(self):
        items = ["5", "-3..2", "7..4", "0..1", "12+5", "22+5", "-8-2", "-1-2", "13+10", "2..2", "-6"]
        wanted = (listed((-3, -2, -1, 0, 1, 2, 5, -6)) | Rounds(12, (F,), (), (T, F, F, F, F)) | Rounds(13, (F,), (), [T] + [F] * 9)
                  | -Rounds(1, (F,), (), (T, F)) | -Rounds(8, (F,), (), (T, F)))
        chance = rng(74)
        for _ in range(30):
            chance.shuffle(items)
            self.assertEqual(read_rounds(",".join(items)), wanted)

    def test_empty_ranges(self):
        self.assertEqual(read_rounds("5..3"), none())
        self.assertEqual(read_rounds("5..3,4"), just(4))
        self.assertEqual(read_rounds("0..-1"), none())
        self.assertEqual(read_rounds("5..4,1..2,9..7"), between(1, 2))

    def test_single_items(self):
        self.assertEqual(read_rounds("0"), just(0))
        self.assertEqual(read_rounds("-999999"), just(-999999))
        self.assertEqual(read_rounds("3..3"), just(3))
        self.assertEqual(read_rounds("-4..-2"), between(-4, -2))
        self.assertEqual(read_rounds("7+3"), Rounds(7, (F,), (), (T, F, F)))
        self.assertEqual(read_rounds("7-3"), Rounds(8, (F, F, T), (), (F,)))
        self.assertEqual(read_rounds("-7-3"), Rounds(-6, (F, F, T), (), (F,)))
        self.assertEqual(read_rounds("0+1"), at_least(0))
        self.assertEqual(read_rounds("0+1,-1-1"), all_counts())
        self.assertEqual(read_rounds("2-1,1+1"), all_counts())
        self.assertEqual(read_rounds("3+9999"), Rounds(3, (F,), (), [T] + [F] * 9998))

    def test_wrong_texts(self):
        for text, column in (
                ("", 1), (" ", 1), ("n", 2), ("no", 3), ("non", 4), ("nome", 3), ("none ", 5), ("none,5", 5), ("nonee", 5),
                ("a", 2), ("al", 3), ("alle", 4), ("all,1", 4), ("al1", 3), ("None", 1), ("x", 1), ("+", 1), (",", 1), (".", 1),
                ("-", 2), ("--1", 2), ("-0", 2), ("-x", 2), ("00", 2), ("01", 2), ("0,", 3), ("0,,1", 3), ("0 ,1", 2), (" 0", 1),
                ("5,none", 3), ("5,all", 3), ("5.", 3), ("5.6", 3), ("5..", 4), ("5...6", 4), ("5..+6", 4), ("5..-", 5),
                ("5..-0", 5), ("5..01", 5), ("5..6..7", 5), ("5..6+7", 5), ("5..6-7", 5), ("5+", 3), ("5+0", 3), ("5+-1", 3),
                ("5+1+2", 4), ("5-1-2", 4), ("5-1..2", 4), ("5+1,", 5), ("5+12345", 7), ("5-99999", 7), ("5+1x", 4), ("1234567", 7),
                ("-1234567", 8), ("1,1234567", 9), ("1..1234567", 10), ("5\n", 2), ("\n", 1), ("5;6", 2), ("1,2,3,x", 7),
                ("\u0661", 1), ("1\u0661", 2), ("1,\u00b2", 3), ("5+\uff11", 3), ("1_000", 2), ("1e3", 2), ("+5", 1), ("5--1", 3)):
            raises(self, BadText(1, column), read_rounds, text)
            self.assertEqual(column_plainly(text), column, text)

    def test_all_short_texts(self):
        for many in range(0, 6):
            for signs in itertools.product("05-+.,", repeat=many):
                self.one_text("".join(signs))
        for signs in itertools.product("nalloe0,", repeat=4):
            self.one_text("".join(signs))

    def one_text(self, text):
        column = column_plainly(text)
        if column is None:
            self.assertIsInstance(read_rounds(text), Rounds)
        else:
            raises(self, BadText(1, column), read_rounds, text)

    def test_texts_that_are_cut_and_bent(self):
        chance = rng(75)
        text = "none all -12,0,123456..-999999,45+9999,-7-8"
        for _ in range(3000):
            low = chance.randrange(len(text))
            piece = text[low:low + chance.randint(1, 25)]
            at = chance.randint(0, len(piece))
            self.bent(piece[:at] + chance.choice(["", "0", "5", ",", "-", "+", ".", "..", "x"]) + piece[at:])

    def bent(self, text):
        column = column_plainly(text)
        if column is not None:
            raises(self, BadText(1, column), read_rounds, text)

    def test_no_strings(self):
        for text in (None, 5, True, b"5", ["5"], ("all",), just(5), 1.0):
            raises(self, BadText(0, 0), read_rounds, text)

    def test_limits(self):
        period, middle = TooMany("period", 20000), TooMany("middle", 20000)
        self.assertEqual(len(read_rounds("0+32,0+625").above), 20000)
        self.assertEqual(len(read_rounds("0-32,0-625").below), 20000)
        self.assertEqual(len(read_rounds("0+101,0+103").above), 10403)
        self.assertEqual(len(read_rounds("0-101,0-103").below), 10403)
        read_rounds("0+32,0-9999")
        for sign in "+-":
            raises(self, period, read_rounds, f"0{sign}177,0{sign}113")
            raises(self, period, read_rounds, f"0{sign}177,5..3,100000{sign}113")
        self.assertEqual(read_rounds("0,20000"), Rounds(0, (F,), [T] + [F] * 19999 + [T], (F,)))
        raises(self, middle, read_rounds, "0,20001")
        raises(self, middle, read_rounds, "20001,0")
        raises(self, middle, read_rounds, "-1..20000")
        raises(self, middle, read_rounds, "20000..-1")
        raises(self, middle, read_rounds, "0+5,20001-5")
        raises(self, middle, read_rounds, "5,20000..7,-1")
        self.assertEqual(read_rounds("20000..0"), none())
        self.assertEqual(read_rounds("0..20000").many(-FAR, FAR), 20001)
        raises(self, BadText(1, 16), read_rounds, "0+9999,0+9998,0x")

    def test_steps_are_no_numbers_of_the_middle(self):
        self.assertEqual(read_rounds("-9999+9999").after(-9998), 0)
        self.assertEqual(read_rounds("10000-9999,-10000").members(-10000, 10000), (-10000, -9998, 1, 10000))


if __name__ == "__main__":
    unittest.main()
