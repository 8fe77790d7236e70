"""[16]: members."""

import unittest

from anylead.errors import BadNumber
from anylead.rounds import Rounds, all_counts, at_least, at_most, between, every, just, listed, none
from helpers import FAR, NO_INTEGERS, member_plainly, raises, rng, some_row

T, F = True, False
# 1, 2 by threes down from 5; then 7, 8, 10; then every fifth number from 13 on.
SET = Rounds(6, (F, T, T), (F, T, T, F, T, F), (F, T, F, F, F))


class Members(unittest.TestCase):
    def test_in(self):
        self.assertEqual([n for n in range(-3, 25) if n in SET], [-2, -1, 1, 2, 4, 5, 7, 8, 10, 13, 18, 23])
        self.assertIs(13 in SET, True)
        self.assertIs(14 in SET, False)
        self.assertIs(13 + 5 * FAR in SET, True)
        self.assertIs(14 + 5 * FAR in SET, False)
        self.assertIs(5 - 3 * FAR in SET, True)
        self.assertIs(3 - 3 * FAR in SET, False)

    def test_bool(self):
        self.assertIs(bool(none()), False)
        for one in (all_counts(), just(0), just(FAR), at_least(3), at_most(3), every(7, 3), SET, listed((1, 5)),
                    Rounds(3, (F, T), (), (F,)), Rounds(3, (F,), (), (F, T))):
            self.assertIs(bool(one), True)

    def test_least_and_greatest(self):
        for one, least, greatest in ((none(), None, None), (all_counts(), None, None), (just(-7), -7, -7),
                                     (at_least(4), 4, None), (at_most(4), None, 4), (SET, None, None),
                                     (listed((3, -9, 5)), -9, 5), (every(3, 1), None, None),
                                     (Rounds(2, (F,), (), (F, F, T)), 4, None), (Rounds(2, (T, F, F), (), (F,)), None, -1),
                                     (Rounds(FAR, (F,), (T, F, T), (F, T)), FAR, None),
                                     (Rounds(-FAR, (T, F), (T, F, T), (F,)), None, 2 - FAR),
                                     (-at_least(FAR), None, -FAR)):
            self.assertEqual((one.least(), one.greatest()), (least, greatest), str(one))

    def test_after_and_before(self):
        self.assertEqual([SET.after(n) for n in (2, 3, 6, 7, 9, 11, 13, 14)], [2, 4, 7, 7, 10, 13, 13, 18])
        self.assertEqual([SET.before(n) for n in (0, 3, 4, 6, 9, 12, 13, 17)], [-1, 2, 4, 5, 8, 10, 13, 13])
        self.assertEqual(SET.after(5 * FAR), 5 * FAR + 3)
        self.assertEqual(SET.before(5 * FAR), 5 * FAR - 2)
        self.assertEqual(SET.after(-3 * FAR), 1 - 3 * FAR)
        self.assertEqual(SET.before(-3 * FAR), -1 - 3 * FAR)
        self.assertEqual((at_most(3).after(4), at_most(3).after(3), at_most(3).after(-FAR)), (None, 3, -FAR))
        self.assertEqual((at_least(3).before(2), at_least(3).before(3), at_least(3).before(FAR)), (None, 3, FAR))
        self.assertEqual((none().after(0), none().before(0)), (None, None))
        self.assertEqual((just(5).after(5), just(5).after(6), just(5).before(5), just(5).before(4)), (5, None, 5, None))

    def test_after_and_before_far_beyond_the_middle(self):
        one = listed((10, 12))
        self.assertEqual((one.after(-FAR), one.after(FAR), one.before(FAR), one.before(-FAR)), (10, None, 12, None))
        two = Rounds(0, (T, F, F), (), (F,)) | just(9)
        self.assertEqual((two.after(-2), two.before(FAR), two.before(8)), (9, 9, -3))

    def test_nearest(self):
        one = listed((0, 4, 10))
        self.assertEqual([one.nearest(n) for n in (-FAR, -1, 0, 1, 2, 3, 4, 6, 7, 8, 10, FAR)],
                         [0, 0, 0, 0, 0, 4, 4, 4, 4, 10, 10, 10])
        self.assertEqual((SET.nearest(0), SET.nearest(3), SET.nearest(6), SET.nearest(15), SET.nearest(16)),
                         (-1, 2, 5, 13, 18))
        self.assertEqual((every(2, 1).nearest(FAR - 1), every(2, 1).nearest(FAR)), (FAR - 2, FAR))
        self.assertEqual((at_least(3).nearest(-FAR), at_most(3).nearest(FAR), none().nearest(7)), (3, 3, None))

    def test_many_and_members(self):
        self.assertEqual((SET.many(-2, 13), SET.members(-2, 13)), (10, (-2, -1, 1, 2, 4, 5, 7, 8, 10, 13)))
        self.assertEqual((SET.many(5, 5), SET.members(5, 5)), (1, (5,)))
        self.assertEqual((SET.many(6, 6), SET.members(6, 6)), (0, ()))
        self.assertEqual((SET.many(6, 5), SET.members(6, 5)), (0, ()))
        self.assertEqual((SET.many(FAR, -FAR), SET.members(FAR, -FAR)), (0, ()))
        self.assertEqual(SET.many(13, 12 + 5 * FAR), FAR)
        self.assertEqual(SET.many(6 - 3 * FAR, 5), 2 * FAR)
        self.assertEqual(SET.many(6 - 3 * FAR, 12 + 5 * FAR), 3 * FAR + 3)
        self.assertEqual(SET.members(5 * FAR, 5 * FAR + 13), (5 * FAR + 3, 5 * FAR + 8, 5 * FAR + 13))
        self.assertEqual(SET.members(-3 * FAR - 1, -3 * FAR + 1), (-3 * FAR - 1, -3 * FAR + 1))
        self.assertEqual((none().many(-FAR, FAR), none().members(0, 99)), (0, ()))
        self.assertEqual(at_most(0).many(-FAR, FAR), FAR + 1)
        self.assertEqual(between(3, 5).members(0, 9), (3, 4, 5))

    def test_members_of_twenty_thousand_numbers(self):
        self.assertEqual(all_counts().members(FAR, FAR + 20000), tuple(range(FAR, FAR + 20001)))
        self.assertEqual(every(2, 0).members(-20000, 0), tuple(range(-20000, 1, 2)))

    def test_ith(self):
        self.assertEqual([SET.ith(5, i) for i in range(-5, 6)], [-2, -1, 1, 2, 4, 5, 7, 8, 10, 13, 18])
        self.assertEqual([SET.ith(6, i) for i in range(-3, 3)], [2, 4, 5, 7, 8, 10])
        self.assertEqual(SET.ith(13, FAR), 13 + 5 * FAR)
        self.assertEqual(SET.ith(6, -2 * FAR), 4 - 3 * (FAR - 1))
        self.assertEqual(every(3, 0).ith(-3 * FAR, 2 * FAR), 3 * FAR)
        self.assertEqual(every(3, 0).ith(3 * FAR, -2 * FAR), -3 * FAR)
        one = listed((2, 4, 9))
        self.assertEqual([one.ith(4, i) for i in range(-3, 4)], [None, None, 2, 4, 9, None, None])
        self.assertEqual((one.ith(-FAR, 2), one.ith(-FAR, 3), one.ith(FAR, -3), one.ith(FAR, -4)), (9, None, 2, None))
        self.assertEqual((at_most(3).ith(4, 0), at_most(3).ith(4, -1), at_least(3).ith(3, -1)), (None, 3, None))
        self.assertEqual((at_least(3).ith(-FAR, FAR), at_most(3).ith(FAR, -FAR)), (3 + FAR, 4 - FAR))
        self.assertEqual((none().ith(0, 0), none().ith(0, -1), none().ith(0, FAR)), (None, None, None))

    def test_all_against_a_plain_search(self):
        chance = rng(41)
        for _ in range(150):
            told = (chance.randint(-8, 8), some_row(chance, 1, 5), some_row(chance, 0, 6), some_row(chance, 1, 5))
            one = Rounds(*told)
            everything = [n for n in range(-150, 151) if member_plainly(*told, n)]
            self.assertEqual([n for n in range(-150, 151) if n in one], everything)
            self.assertIs(bool(one), bool(everything))
            self.assertEqual(one.least(), None if any(told[1]) else min(everything, default=None))
            self.assertEqual(one.greatest(), None if any(told[3]) else max(everything, default=None))
            for n in range(-22, 23, 4):
                up = [m for m in everything if m >= n]
                down = [m for m in everything if m < n][::-1]
                self.assertEqual(one.after(n), up[0] if up else None)
                self.assertEqual(one.before(n - 1), down[0] if down else None)
                self.assertEqual(one.nearest(n), min(everything, key=lambda m: (abs(m - n), m), default=None))
                for i in range(6):
                    self.assertEqual(one.ith(n, i), up[i] if i < len(up) else None)
                    self.assertEqual(one.ith(n, -1 - i), down[i] if i < len(down) else None)
                high = n + chance.randint(-3, 25)
                between_them = tuple(m for m in everything if n <= m <= high)
                self.assertEqual(one.members(n, high), between_them)
                self.assertEqual(one.many(n, high), len(between_them))

    def test_errors(self):
        for one in (SET, none(), all_counts()):
            for n in NO_INTEGERS:
                raises(self, BadNumber("count", n), one.after, n)
                raises(self, BadNumber("count", n), one.before, n)
                raises(self, BadNumber("count", n), one.nearest, n)
                raises(self, BadNumber("low", n), one.many, n, None)
                raises(self, BadNumber("high", n), one.many, 0, n)
                raises(self, BadNumber("low", n), one.members, n, None)
                raises(self, BadNumber("high", n), one.members, 0, n)
                raises(self, BadNumber("count", n), one.ith, n, None)
                raises(self, BadNumber("index", n), one.ith, 0, n)


if __name__ == "__main__":
    unittest.main()
