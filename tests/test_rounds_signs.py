"""[17], [18]: signs, changes, limits, makers."""

import unittest

from anylead.errors import BadNumber, BadRow, TooMany
from anylead.rounds import Rounds, all_counts, at_least, at_most, between, every, just, listed, none
from helpers import FAR, NO_INTEGERS, NO_ROWS, form_of, raises, rng, some_rounds

T, F = True, False
PERIOD = TooMany("period", 20000)
MIDDLE = TooMany("middle", 20000)
SIGNS = (
    (lambda one, other: one & other, lambda a, b: a and b),
    (lambda one, other: one | other, lambda a, b: a or b),
    (lambda one, other: one ^ other, lambda a, b: a != b),
    (lambda one, other: one - other, lambda a, b: a and not b),
)
PAIRED = tuple(sign for sign, _ in SIGNS) + (Rounds.within, Rounds.apart)


def steps(p, q):
    """A set with the length p of below and q of above, and an empty middle, without members from 1 - p to q - 2."""
    return Rounds(0, [T] + [F] * (p - 1), (), [F] * (q - 1) + [T])


class Signs(unittest.TestCase):
    def members(self, one, told):
        """Asserts that a set is in the ONE form and has just the members that told tells."""
        counts = range(-90, 91)
        self.assertEqual([n for n in counts if n in one], [n for n in counts if told(n)])
        start = one.start - 2 * len(one.below)
        wide = Rounds(start, one.below, [n in one for n in range(start, one.end)], one.above + one.above)
        self.assertEqual(form_of(one), form_of(wide))

    def test_pairs_member_by_member(self):
        chance = rng(51)
        for _ in range(120):
            one, other = some_rounds(chance), some_rounds(chance)
            for sign, told in SIGNS:
                self.members(sign(one, other), lambda n: told(n in one, n in other))
            counts = range(-90, 91)
            self.assertIs(one.within(other), all(n in other for n in counts if n in one))
            self.assertIs(one.apart(other), not any(n in other for n in counts if n in one))

    def test_turned_member_by_member(self):
        chance = rng(52)
        for _ in range(150):
            one = some_rounds(chance)
            self.members(~one, lambda n: n not in one)
            self.members(-one, lambda n: -n in one)
            by = chance.randint(-20, 20)
            self.members(one.moved(by), lambda n: n - by in one)
            self.assertEqual(-(-one), one)
            self.assertEqual(~~one, one)

    def test_spread_member_by_member(self):
        chance = rng(53)
        for k in range(-4, 5):
            for _ in range(25):
                one, r = some_rounds(chance), chance.randint(-9, 9)
                if k == 0:
                    self.assertEqual(one.spread(0, r), just(r) if one else none())
                else:
                    self.members(one.spread(k, r), lambda n: (n - r) % k == 0 and (n - r) // k in one)

    def test_pulled_member_by_member(self):
        chance = rng(54)
        for k in list(range(-7, 8)) + [60, -61, 10 ** 4, -FAR, FAR]:
            for _ in range(20):
                one, r = some_rounds(chance), chance.randint(-9, 9)
                self.members(one.pulled(k, r), lambda n: k * n + r in one)

    def test_far_numbers(self):
        chance = rng(55)
        for far in (FAR, -FAR):
            for _ in range(20):
                one, other = some_rounds(chance), some_rounds(chance)
                # The steps are up to 5, so a move by a multiple of 60 changes no rest.
                by = far * 60
                for sign, _ in SIGNS:
                    self.assertEqual(sign(one.moved(by), other.moved(by)), sign(one, other).moved(by))
                self.assertEqual(-one.moved(by), (-one).moved(-by))
                self.assertEqual(~one.moved(by), (~one).moved(by))
                self.assertEqual(one.moved(by).spread(-3, 5), one.spread(-3, 5).moved(-3 * by))
                self.assertEqual(one.moved(by).pulled(4, by), one.moved(by).moved(-by).pulled(4, 0))
                self.assertEqual(one.moved(by).pulled(-60, 3), one.pulled(-60, 3).moved(-far))

    def test_plain_answers(self):
        self.assertEqual(at_least(3) & at_most(5), between(3, 5))
        self.assertEqual(at_least(3) | at_most(5), all_counts())
        self.assertEqual(at_least(3) ^ at_least(6), between(3, 5))
        self.assertEqual(all_counts() - at_least(3), at_most(2))
        self.assertEqual(~at_least(3), at_most(2))
        self.assertEqual(-at_least(3), at_most(-3))
        self.assertEqual(~every(2, 0), every(2, 1))
        self.assertEqual(every(2, 0) & every(3, 0), every(6, 0))
        self.assertEqual(every(6, 1).spread(-2, FAR), every(12, FAR - 2))
        self.assertEqual(every(6, 1).pulled(3, FAR * 3 + 1), every(2, FAR))
        self.assertEqual(every(6, 1).pulled(2, 0), none())
        self.assertEqual(just(FAR).pulled(FAR, 0), just(1))
        self.assertEqual((just(5).pulled(0, 5), just(5).pulled(0, 6)), (all_counts(), none()))
        self.assertEqual(just(FAR).spread(-300, FAR), just(-299 * FAR))

    def test_within_and_apart_are_truths(self):
        self.assertIs(just(3).within(at_least(3)), True)
        self.assertIs(at_least(3).within(just(3)), False)
        self.assertIs(none().within(none()), True)
        self.assertIs(all_counts().within(none()), False)
        self.assertIs(just(3).apart(just(4)), True)
        self.assertIs(just(3).apart(at_most(3)), False)
        self.assertIs(none().apart(none()), True)
        self.assertIs(every(4, 1).apart(every(6, 4)), True)

    def test_sets_that_are_handed_stay(self):
        one, other = Rounds(1, (T, F), (T, T), (F, F, T)), Rounds(-3, (F,), (F, T), (T,))
        forms = form_of(one), form_of(other)
        for sign in PAIRED:
            sign(one, other)
        one.spread(-3, 1)
        one.pulled(-3, 1)
        self.assertEqual(-(-one), ~~one)
        self.assertEqual((form_of(one), form_of(other)), forms)

    def test_wrong_numbers(self):
        one = Rounds(1, (T, F), (T, T), (F, F, T))
        for value in NO_INTEGERS:
            raises(self, BadNumber("by", value), one.moved, value)
            raises(self, BadNumber("factor", value), one.spread, value, None)
            raises(self, BadNumber("factor", value), one.pulled, value, None)
            raises(self, BadNumber("shift", value), one.spread, 0, value)
            raises(self, BadNumber("shift", value), one.spread, 10 ** 9, value)
            raises(self, BadNumber("shift", value), one.pulled, 0, value)


class Limits(unittest.TestCase):
    def test_periods_of_pairs(self):
        self.assertEqual((len(steps(100, 200).below), len(steps(100, 200).above)), (100, 200))
        for sign in PAIRED:
            sign(steps(32, 1), steps(625, 1))
            sign(steps(1, 32), steps(1, 625))
            sign(steps(20000, 1), steps(1, 20000))
            raises(self, PERIOD, sign, steps(177, 1), steps(113, 1))
            raises(self, PERIOD, sign, steps(1, 177), steps(1, 113))
            raises(self, PERIOD, sign, steps(3, 6667), steps(3, 6670))
            raises(self, PERIOD, sign, steps(1, 20001), none())
            raises(self, PERIOD, sign, none(), steps(20001, 1))
            raises(self, PERIOD, sign, all_counts(), steps(20001, 1))
        self.assertEqual(len((every(32, 0) | every(625, 0)).above), 20000)

    def test_middles_of_pairs(self):
        for sign in PAIRED:
            sign(just(0), just(19999))
            sign(just(19999), just(0))
            sign(at_least(0), at_least(20000))
            raises(self, MIDDLE, sign, just(0), just(20000))
            raises(self, MIDDLE, sign, just(20000), just(0))
            raises(self, MIDDLE, sign, at_least(0), at_least(20001))
            raises(self, MIDDLE, sign, at_most(FAR), at_least(-FAR))
            raises(self, MIDDLE, sign, just(FAR), at_least(0))
            raises(self, MIDDLE, sign, Rounds(0, (F,), [T] * 20001, (F,)), just(5))
            sign(Rounds(0, (F,), [T] * 20000, (F,)), just(5))

    def test_sets_that_are_periodic_throughout_have_no_end(self):
        for sign in PAIRED:
            sign(just(FAR), none())
            sign(all_counts(), just(-FAR))
            sign(every(7, 3), at_least(FAR))
            sign(every(7, 3), every(20, 3))
            raises(self, MIDDLE, sign, none(), Rounds(0, (F,), [T] * 20001, (F,)))
            raises(self, MIDDLE, sign, Rounds(FAR, (F,), [T] * 20001, (F,)), every(2, 1))
        self.assertEqual(just(FAR) | none(), just(FAR))
        self.assertEqual(every(7, 0) & at_least(7 * FAR), Rounds(7 * FAR, (F,), (), [T] + [F] * 6))
        self.assertEqual(all_counts() - just(-FAR), ~just(-FAR))

    def test_a_set_at_nought_has_an_end_there(self):
        raises(self, MIDDLE, PAIRED[0], at_least(0), just(FAR))
        raises(self, MIDDLE, PAIRED[1], at_most(-1), just(FAR))

    def test_the_period_goes_ahead_of_the_middle(self):
        for sign in PAIRED:
            raises(self, PERIOD, sign, steps(1, 127), steps(1, 160).moved(FAR))
            raises(self, PERIOD, sign, steps(127, 1), steps(160, 1).moved(FAR))

    def test_spread(self):
        self.assertEqual(len(steps(1, 100).spread(200, 0).above), 20000)
        self.assertEqual(len(steps(100, 1).spread(-200, 0).above), 20000)
        raises(self, PERIOD, steps(1, 100).spread, 201, 0)
        raises(self, PERIOD, steps(1, 100).spread, -201, 0)
        raises(self, PERIOD, steps(100, 1).spread, 201, 0)
        raises(self, PERIOD, steps(100, 1).spread, -201, 0)
        self.assertEqual(just(3).spread(20000, 1), just(60001))
        raises(self, PERIOD, none().spread, 20001, 0)
        raises(self, PERIOD, just(3).spread, -20001, 0)
        self.assertEqual(len(Rounds(0, (F,), [T] * 100, (F,)).spread(200, 0).middle), 200 * 99 + 1)
        raises(self, MIDDLE, Rounds(0, (F,), [T] * 100, (F,)).spread, 201, 0)
        raises(self, MIDDLE, Rounds(0, (F,), [T] * 100, (F,)).spread, -201, 0)
        raises(self, PERIOD, Rounds(0, (F,), [T] * 100, (F,)).spread, FAR, 0)
        self.assertEqual(Rounds(0, (F,), [T] * 30000, (F,)).spread(0, 8), just(8))
        self.assertEqual((none().spread(0, 8), all_counts().spread(0, FAR)), (none(), just(FAR)))
        raises(self, MIDDLE, Rounds(0, (F,), [T] * 20001, (F,)).spread, 1, 8)

    def test_the_others_have_no_limit(self):
        one = Rounds(FAR, [T] + [F] * 29999, [T, F] * 15000, [T] + [F] * 30010)
        self.assertEqual(-(-one), one)
        self.assertEqual(~~one, one)
        self.assertEqual(one.moved(-2 * FAR).moved(2 * FAR), one)
        self.assertEqual(one.pulled(-1, 0), -one)
        self.assertEqual(one.pulled(FAR + 1, 0).pulled(0, 0), all_counts() if 0 in one else none())
        self.assertFalse(one == none())


class Makers(unittest.TestCase):
    def test_forms(self):
        self.assertEqual(form_of(none()), (0, (F,), (), (F,)))
        self.assertEqual(form_of(all_counts()), (0, (T,), (), (T,)))
        for n in (0, 5, -5, FAR, -FAR):
            self.assertEqual(form_of(just(n)), (n, (F,), (T,), (F,)))
            self.assertEqual(form_of(at_least(n)), (n, (F,), (), (T,)))
            self.assertEqual(form_of(at_most(n)), (n + 1, (T,), (), (F,)))
            self.assertEqual(form_of(between(n, n + 2)), (n, (F,), (T, T, T), (F,)))
            self.assertEqual(between(n, n), just(n))
            self.assertEqual(between(n, n - 1), none())
        self.assertEqual(between(FAR, -FAR), none())

    def test_every(self):
        self.assertEqual(form_of(every(3, 1)), (0, (F, T, F), (), (F, T, F)))
        self.assertEqual(every(3, -FAR), every(3, -FAR % 3))
        self.assertEqual(every(1, 7), all_counts())
        self.assertEqual([n for n in range(-9, 10) if n in every(4, 6)], [-6, -2, 2, 6])
        self.assertEqual(len(every(20000, -1).above), 20000)
        for m in NO_INTEGERS + (0, -3, 20001, FAR):
            raises(self, BadNumber("modulus", m), every, m, None)
        for r in NO_INTEGERS:
            raises(self, BadNumber("rest", r), every, 3, r)

    def test_listed(self):
        for kind in (list, tuple):
            self.assertEqual(listed(kind([5, 2, 5, 3, 2])), Rounds(2, (F,), (T, T, F, T), (F,)))
            self.assertEqual(listed(kind([])), none())
            self.assertEqual(listed(kind([-FAR])), just(-FAR))
        row = [3, 1, 3]
        listed(row)
        self.assertEqual(row, [3, 1, 3])
        self.assertEqual(listed((FAR, FAR + 19999)).members(FAR, FAR + 19999), (FAR, FAR + 19999))
        self.assertEqual(len(listed(list(range(20000))[::-1]).middle), 20000)
        raises(self, MIDDLE, listed, (0, 20000))
        raises(self, MIDDLE, listed, [FAR, 5, -FAR])
        for row in NO_ROWS:
            raises(self, BadRow(row), listed, row)
        for item in NO_INTEGERS:
            raises(self, BadRow((0, item, 30000)), listed, (0, item, 30000))
            raises(self, BadRow([item]), listed, [item])

    def test_wrong_counts(self):
        for maker in (just, at_least, at_most):
            for n in NO_INTEGERS:
                raises(self, BadNumber("count", n), maker, n)

    def test_between_at_its_limit(self):
        self.assertEqual(between(FAR, FAR + 19999).many(-FAR, 2 * FAR), 20000)
        raises(self, MIDDLE, between, FAR, FAR + 20000)
        raises(self, MIDDLE, between, -FAR, FAR)
        for value in NO_INTEGERS:
            raises(self, BadNumber("low", value), between, value, None)
            raises(self, BadNumber("high", value), between, -FAR, value)


if __name__ == "__main__":
    unittest.main()
