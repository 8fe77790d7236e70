"""[19]: sums and shifts."""

import unittest

from anylead.errors import TooMany
from anylead.rounds import Rounds, all_counts, at_least, at_most, between, every, just, listed, none
from anylead.roundsums import shifts, sums
from helpers import FAR, form_of, raises, rng, some_rounds

T, F = True, False
PERIOD = TooMany("period", 20000)
MIDDLE = TooMany("middle", 20000)


def steps(p, q):
    """A set with the length p of below and q of above, and an empty middle."""
    return Rounds(0, [T] + [F] * (p - 1), (), [F] * (q - 1) + [T])


class Sums(unittest.TestCase):
    def test_plain_answers(self):
        self.assertEqual(sums(just(3), just(-5)), just(-2))
        self.assertEqual(sums(listed((0, 3, 5)), listed((0, 10))), listed((0, 3, 5, 10, 13, 15)))
        self.assertEqual(sums(at_least(3), at_least(4)), at_least(7))
        self.assertEqual(sums(at_most(3), at_most(4)), at_most(7))
        self.assertEqual(sums(at_least(3), at_most(4)), all_counts())
        self.assertEqual(sums(every(4, 1), every(6, 0)), every(2, 1))
        self.assertEqual(sums(every(4, 1), just(7)), every(4, 0))
        self.assertEqual(sums(every(4, 1), between(0, 2)), ~every(4, 0))
        self.assertEqual(sums(at_least(0) & every(4, 0), at_most(0) & every(6, 1)), every(2, 1))
        self.assertEqual(sums(all_counts(), just(FAR)), all_counts())
        self.assertEqual(sums(between(0, 9), between(-5, 5)), between(-5, 14))

    def test_without_members(self):
        for other in (none(), all_counts(), just(FAR), at_least(3), every(7, 2)):
            self.assertEqual(sums(none(), other), none())
            self.assertEqual(sums(other, none()), none())

    def test_against_a_plain_search(self):
        chance = rng(61)
        for _ in range(300):
            one, other = some_rounds(chance), some_rounds(chance)
            found = sums(one, other)
            ours = one.members(-150, 150)
            theirs = {n for n in range(-200, 201) if n in other}
            for n in range(-45, 46):
                self.assertEqual(n in found, any(n - x in theirs for x in ours), (str(one), str(other), n))
            self.assertEqual(sums(other, one), found)

    def test_the_answer_is_in_the_one_form(self):
        chance = rng(62)
        for _ in range(40):
            found = sums(some_rounds(chance), some_rounds(chance))
            low = found.start - 3 * len(found.below)
            wide = Rounds(low, found.below, [n in found for n in range(low, found.end)], found.above)
            self.assertEqual(form_of(wide), form_of(found))

    def test_starts_of_sixty_digits(self):
        chance = rng(63)
        for far in (FAR, -FAR):
            for _ in range(40):
                one, other = some_rounds(chance), some_rounds(chance)
                self.assertEqual(sums(one.moved(far), other), sums(one, other).moved(far))
                self.assertEqual(sums(one.moved(far), other.moved(-far // 2)), sums(one, other).moved(far + -far // 2))
        self.assertEqual(sums(just(FAR), every(5, 1)), every(5, FAR + 1))
        self.assertEqual(sums(at_least(FAR), at_most(-FAR)), all_counts())

    def test_all_rests_are_met_only_far_up(self):
        # The least numbers that are no sums of 141 and 140 reach to 141 * 140 - 141 - 140.
        for gap, far in ((0, 0), (17, FAR)):
            one = at_least(0) & every(141, 0)
            other = at_least(0) & every(140, 0)
            found = sums(one.moved(gap), other.moved(far))
            plain = {x + y for x in range(0, 20300, 141) for y in range(0, 20300, 140)}
            wanted = tuple(n + gap + far for n in sorted(plain) if n <= 20000)
            self.assertEqual(found.members(gap + far - 100, gap + far + 20000), wanted)
            self.assertEqual(found.end, 141 * 140 - 141 - 140 + 1 + gap + far)
            self.assertEqual(found.above, (T,))
            down = sums((-one).moved(-gap), (-other).moved(-far))
            self.assertEqual(down, -found)

    def test_great_middles(self):
        chance = rng(64)
        ours = sorted(chance.sample(range(10000), 150) + [0, 9999])
        theirs = sorted(chance.sample(range(10000), 150) + [0, 9999])
        found = sums(listed(ours), listed([n + FAR for n in theirs]))
        self.assertEqual(found.members(FAR, FAR + 20000), tuple(sorted({x + y + FAR for x in ours for y in theirs})))
        self.assertEqual((found.least(), found.greatest()), (FAR, FAR + 19998))
        one = Rounds(0, (F,), [n in ours for n in range(10000)], (F, F, F, T))
        found = sums(one, listed(theirs))
        plain = {x + y for x in ours + list(range(10003, 40000, 4)) for y in theirs}
        self.assertEqual(found.members(0, 20000), tuple(sorted(n for n in plain if n <= 20000)))

    def test_great_steps_in_good_time(self):
        chance = rng(65)
        row = [chance.random() < 0.5 for _ in range(19999)] + [T]
        falling = [chance.random() < 0.001 for _ in range(19999)] + [T]
        one = Rounds(FAR, (F,), (), row)
        other = Rounds(0, falling, (), (F,))
        places = [at for at, on in enumerate(row) if on]
        rests = {(FAR + x + y) % 20000 for x in places for y, on in enumerate(falling) if on}
        told = [n in rests for n in range(20000)]
        self.assertEqual(sums(one, other), Rounds(0, told, (), told))
        dense = Rounds(-FAR, (T, F) * 3 + (T,), [chance.random() < 0.5 for _ in range(20000)], (F,))
        thin = Rounds(0, (F,), (), row)
        self.assertEqual(sums(thin, dense), sums(dense, thin))

    def test_limits(self):
        for other in (steps(1, 1), at_least(0)):
            sums(steps(20000, 20000), other)
            raises(self, PERIOD, sums, steps(20001, 1), other)
            raises(self, PERIOD, sums, steps(1, 20001), other)
        for call in (sums, lambda one, other: sums(other, one)):
            call(steps(100, 100), steps(200, 200))
            raises(self, PERIOD, call, steps(177, 1), steps(113, 1))
            raises(self, PERIOD, call, steps(1, 177), steps(1, 113))
            # It is the product that counts, not the least common multiple.
            raises(self, PERIOD, call, every(142, 0), every(142, 0))
            raises(self, PERIOD, call, none(), steps(20001, 1))
            raises(self, PERIOD, call, none(), steps(1, 20001))
            call(between(1, 10000), between(1, 10000))
            call(between(1, 20000), at_least(FAR))
            raises(self, MIDDLE, call, between(1, 10000), between(1, 10001))
            raises(self, MIDDLE, call, Rounds(5, (F,), [T] * 20001, (F,)), none())
            raises(self, MIDDLE, call, Rounds(5, (F,), [T] * 20001, (F,)), every(2, 0))
            raises(self, PERIOD, call, Rounds(5, (F,), [T] * 20001, (F,)), steps(20001, 1))

    def test_sets_that_are_handed_stay(self):
        one, other = Rounds(1, (T, F), (T, T), (F, F, T)), Rounds(-3, (F,), (F, T), (T,))
        forms = form_of(one), form_of(other)
        sums(one, other)
        shifts(one, other)
        self.assertEqual((form_of(one), form_of(other)), forms)


class Shifts(unittest.TestCase):
    def test_plain_answers(self):
        self.assertEqual(shifts(just(3), just(10)), just(7))
        self.assertEqual(shifts(between(3, 5), between(0, 9)), between(-3, 4))
        self.assertEqual(shifts(at_least(3), at_least(-FAR)), at_least(-FAR - 3))
        self.assertEqual(shifts(every(4, 1), every(2, 0)), every(2, 1))
        self.assertEqual(shifts(at_least(0), at_most(9)), none())
        self.assertEqual(shifts(at_most(0) & every(6, 0), every(3, 1)), every(3, 1))

    def test_without_members(self):
        for other in (none(), all_counts(), just(4), every(5, 1)):
            self.assertEqual(shifts(none(), other), all_counts())
        self.assertEqual(shifts(just(4), none()), none())
        self.assertEqual(shifts(at_least(4), all_counts()), all_counts())

    def test_against_a_plain_search(self):
        chance = rng(66)
        for _ in range(300):
            one, other = some_rounds(chance), some_rounds(chance)
            found = shifts(one, other)
            ours = one.members(-150, 150)
            theirs = {n for n in range(-200, 201) if n in other}
            for d in range(-40, 41):
                self.assertEqual(d in found, all(n + d in theirs for n in ours), (str(one), str(other), d))

    def test_starts_of_sixty_digits(self):
        chance = rng(67)
        for _ in range(40):
            one, other = some_rounds(chance), some_rounds(chance)
            self.assertEqual(shifts(one.moved(FAR), other), shifts(one, other).moved(-FAR))
            self.assertEqual(shifts(one, other.moved(-FAR)), shifts(one, other).moved(-FAR))

    def test_limits(self):
        # Below of one goes with above of other: shifts raises what sums(-one, ~other) raises.
        raises(self, PERIOD, shifts, steps(177, 1), steps(1, 113))
        raises(self, PERIOD, shifts, steps(1, 177), steps(113, 1))
        shifts(steps(177, 1), steps(113, 1))
        shifts(steps(1, 177), steps(1, 113))
        raises(self, PERIOD, shifts, none(), steps(1, 20001))
        raises(self, PERIOD, shifts, steps(20001, 1), all_counts())
        shifts(between(1, 10000), between(1, 10000))
        raises(self, MIDDLE, shifts, between(1, 10000), between(1, 10001))
        raises(self, MIDDLE, shifts, none(), Rounds(5, (F,), [T] * 20001, (F,)))
        raises(self, PERIOD, shifts, steps(20001, 1), Rounds(5, (F,), [T] * 20001, (F,)))


if __name__ == "__main__":
    unittest.main()
