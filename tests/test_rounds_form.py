"""[14], [15]: Rounds, the ONE form, and ==."""

import unittest

from anylead.errors import BadNumber, BadRow
from anylead.rounds import Rounds, all_counts, at_least, at_most, every, just, none
from helpers import FAR, NO_INTEGERS, NO_ROWS, form_of, member_plainly, raises, rng, some_row

T, F = True, False
NO_TRUTHS = (0, 1, None, "True", 1.0, (True,), [True], -1)


def plain_form(told):
    """The ONE form by a search, word by word, for descriptions with starts near nought and short rows."""
    def on(n):
        return member_plainly(*told, n)
    q = next(q for q in range(1, 99) if all(on(n) == on(n + q) for n in range(30, 99)))
    p = next(p for p in range(1, 99) if all(on(n) == on(n - p) for n in range(-99, -30)))
    if any(all(on(n) == on(n + m) for n in range(-120, 120)) for m in range(1, 40)):
        row = tuple(on(n) for n in range(q))
        return 0, row, (), row
    end = next(n for n in range(60, -199, -1) if on(n - 1) != on(n - 1 + q))
    start = next(n for n in range(-99, 99) if n == end or on(n) != on(n - p))
    return (start, tuple(on(start - p + k) for k in range(p)), tuple(on(n) for n in range(start, end)),
            tuple(on(end + k) for k in range(q)))


class OneForm(unittest.TestCase):
    def form(self, told, wanted):
        one = Rounds(*told)
        self.assertEqual(form_of(one), wanted)
        for row in form_of(one)[1:]:
            self.assertIs(type(row), tuple)

    def test_plain_sets(self):
        self.form((0, (F,), (), (F,)), (0, (F,), (), (F,)))
        self.form((7, [T, T], [T], [T, T, T]), (0, (T,), (), (T,)))
        self.form((7, [F], [], [F, F]), (0, (F,), (), (F,)))
        self.form((5, (F,), (T,), (F,)), (5, (F,), (T,), (F,)))
        self.form((5, (F,), (), (T,)), (5, (F,), (), (T,)))
        self.form((5, (T,), (), (F,)), (5, (T,), (), (F,)))
        self.form((2, (F,), (F, T, F, T, T, F), (F,)), (3, (F,), (T, F, T, T), (F,)))

    def test_many_descriptions_of_one_set(self):
        told = (3, (T, F, F), (T, T, F, T, T), (T, F))
        wanted = (4, (F, F, T), (T, F, T, T), (T, F))
        self.assertEqual(wanted, plain_form(told))
        for lower in range(0, 9):
            for upper in range(0, 9):
                for p in (3, 6, 12):
                    for q in (2, 4, 10):
                        start, end = 3 - lower, 8 + upper
                        below = [member_plainly(*told, start - p + k) for k in range(p)]
                        middle = [member_plainly(*told, n) for n in range(start, end)]
                        above = [member_plainly(*told, end + k) for k in range(q)]
                        self.assertEqual(form_of(Rounds(start, below, middle, above)), wanted)

    def test_the_form_word_by_word(self):
        chance = rng(31)
        for _ in range(250):
            told = (chance.randint(-8, 8), some_row(chance, 1, 6), some_row(chance, 0, 7), some_row(chance, 1, 6))
            self.form(told, plain_form(told))

    def test_likely_near_misses(self):
        for told in ((0, (T, F), (T, F, F, F), (T, F)), (1, (T, F), (T,), (T, F)), (1, (T, F), (F,), (T, F)),
                     (4, (T, F, F), (), (F, T, F)), (4, (T, T, F, T, T, F), (T, T), (F, T, T)), (0, (T, F), (), (T, F, F)),
                     (0, (F, F, T), (F, F), (T, F, F, F)), (5, (F, T), (), (F,)), (5, (T, F), (), (F,)), (5, (F,), (), (F, T)),
                     (5, (T,), (F, T, T), (T,)), (-3, (F, T), (T, F, T), (F, F, F, T))):
            self.form(told, plain_form(told))

    def test_the_end_goes_ahead_of_the_start(self):
        # The even numbers up to 0: 1 is as below and as above, and belongs to what is above.
        self.form((5, (T, F, T, F), (F, F), (F,)), plain_form((5, (T, F, T, F), (F, F), (F,))))
        self.assertEqual(form_of(Rounds(2, (T, F), (F,), (F,))), (1, (F, T), (), (F,)))
        self.assertEqual(form_of(Rounds(1, (F, T), (), (F, F))), (1, (F, T), (), (F,)))
        self.assertEqual(form_of(-Rounds(1, (F, T), (), (F,))), (-1, (F,), (), (F, T)))

    def test_periodic_throughout(self):
        for start in (0, 1, 5, -7, FAR, -FAR):
            for row in ((T, F), (T, T, F), (F, T, F, F), (T, F, F, T, F)):
                length = len(row)
                for many in range(0, 2 * length + 1):
                    middle = (row * 3)[:many]
                    above = (row * 4)[many % length:many % length + 2 * length]
                    one = Rounds(start, row * 3, middle, above)
                    told = tuple(row[(n - start) % length] for n in range(length))
                    self.assertEqual(form_of(one), (0, told, (), told))

    def test_periodic_but_for_one_number(self):
        row = (T, F, F)
        for at in (0, 1, 2, 14, -9, FAR):
            for wrong in range(6):
                middle = [not on if k == wrong else on for k, on in enumerate(row * 2)]
                one = Rounds(at, row * 2, middle, row)
                number = at + wrong
                turned = tuple(row[(wrong + 1 + k) % 3] for k in range(3))
                self.assertEqual(form_of(one), (number, tuple(row[(wrong + k) % 3] for k in range(3)),
                                                (not row[wrong % 3],), turned))

    def test_far_starts(self):
        chance = rng(32)
        for _ in range(60):
            told = (chance.randint(-8, 8), some_row(chance, 1, 6), some_row(chance, 0, 7), some_row(chance, 1, 6))
            start, below, middle, above = plain_form(told)
            far = Rounds(told[0] + FAR, told[1], told[2], told[3])
            if middle == () and below == above and start == 0:
                row = tuple(below[(k - FAR) % len(below)] for k in range(len(below)))
                self.assertEqual(form_of(far), (0, row, (), row))
            else:
                self.assertEqual(form_of(far), (start + FAR, below, middle, above))

    def test_steps_without_a_common_divisor(self):
        self.form((0, (T,) + (F,) * 6, (), (T,) + (F,) * 10), (-6, (F,) * 6 + (T,), (), (F,) * 6 + (T,) + (F,) * 4))
        self.form((0, (F, F, T), (), (F, F, F, F, F)), (0, (F, F, T), (), (F,)))
        told = (0, (F, F, F, T), (), (F, F, F, F, T, T))
        self.form(told, plain_form(told))

    def test_no_end_and_no_least_step_is_missed_in_long_rows(self):
        for length in (2, 3, 4, 6, 12, 30, 36, 49, 97, 100):
            for step in range(1, length + 1):
                row = [n % step == 0 for n in range(length)] if length % step == 0 else [n == 0 for n in range(length)]
                least = step if length % step == 0 else length
                one = Rounds(1, (F,), (), row)
                self.assertEqual((one.start, len(one.above)), (1, least) if least == 1 else (one.start, least))

    def test_seventy_thousand_truths(self):
        chance = rng(33)
        rows = [[chance.random() < 0.5 for _ in range(70000)] for _ in range(3)]
        one = Rounds(FAR, *rows)
        again = Rounds(FAR - 3, rows[0][-3:] + rows[0][:-3], rows[0][-3:] + rows[1] + rows[2][:5], rows[2][5:] + rows[2][:5])
        self.assertEqual(form_of(one), form_of(again))
        self.assertEqual(form_of(Rounds(FAR, [T, F] * 35000, [T, F] * 35000, [T, F] * 35000)), (0, (F, T), (), (F, T)))
        self.assertEqual(form_of(Rounds(1, [F] * 70000, [F] * 69999 + [T], [F] * 70000)), (70000, (F,), (T,), (F,)))
        prime = Rounds(0, [T] + [F] * 69996, [], [T] + [F] * 69990)
        self.assertEqual((len(prime.below), len(prime.above)), (69997, 69991))


class Equal(unittest.TestCase):
    def test_equal_sets(self):
        one = Rounds(2, (T, F), (T, T), (F, F, T))
        self.assertTrue(one == Rounds(0, [T, F, T, F], [T, F, T, T], [F, F, T, F, F, T]))
        self.assertFalse(one != Rounds(0, [T, F, T, F], [T, F, T, T], [F, F, T, F, F, T]))
        self.assertTrue(one == one)
        for other in (Rounds(3, (T, F), (T, T), (F, F, T)), Rounds(2, (F, T), (T, T), (F, F, T)),
                      Rounds(2, (T, F), (T, F), (F, F, T)), Rounds(2, (T, F), (T, T), (F, T, F)), none(), all_counts()):
            self.assertFalse(one == other)
            self.assertTrue(one != other)

    def test_each_attribute_tells(self):
        one = (0, (F,), (T, T, F, T), (F,))
        for other in ((1, (F,), (T, T, F, T), (F,)), (0, (F, T), (T, T, F, T), (F,)), (0, (F,), (T, F, F, T), (F,)),
                      (0, (F,), (T, T, F, T), (F, T, F))):
            self.assertEqual((form_of(Rounds(*one)), form_of(Rounds(*other))), (one, other))
            self.assertFalse(Rounds(*one) == Rounds(*other))
            self.assertFalse(Rounds(*other) == Rounds(*one))
        self.assertFalse(at_least(3) == at_least(4))
        self.assertFalse(just(3) == just(4))
        self.assertFalse(at_least(3) == at_most(2))
        self.assertFalse(every(2, 0) == every(2, 1))
        self.assertFalse(Rounds(3, (T,), (F,), (T,)) == Rounds(3, (F,), (F,), (T,)))
        self.assertFalse(Rounds(3, (F,), (T, F), (T, F)) == Rounds(3, (F,), (T, F), (T, T, F)))

    def test_other_values(self):
        one = just(0)
        for other in (None, 0, "0", (0,), (0, (F,), (T,), (F,)), [0], {0}, True, object()):
            self.assertFalse(one == other)
            self.assertFalse(other == one)
            self.assertTrue(one != other)

    def test_far_sets_of_far_numbers(self):
        self.assertTrue(Rounds(FAR, (T, F), (), (T, F)) == every(2, FAR))
        self.assertFalse(just(FAR) == just(-FAR))


class Described(unittest.TestCase):
    def test_lists_and_tuples(self):
        for kind in (list, tuple):
            one = Rounds(1, kind([T, F]), kind([F, T, F]), kind([T, T, F]))
            self.assertEqual(form_of(one), form_of(Rounds(1, (T, F), (F, T, F), (T, T, F))))

    def test_rows_that_are_changed_afterwards(self):
        below, middle, above = [T, F], [F, T, T], [T, T, F]
        one = Rounds(1, below, middle, above)
        form = form_of(one)
        members = one.members(-20, 20)
        below[0] = F
        middle.append(T)
        above.clear()
        self.assertEqual(form_of(one), form)
        self.assertEqual(one.members(-20, 20), members)

    def test_rows_that_are_handed_stay(self):
        below, middle, above = [T, F, T, F], [T, F, T, T], [T, T]
        Rounds(1, below, middle, above)
        self.assertEqual((below, middle, above), ([T, F, T, F], [T, F, T, T], [T, T]))

    def test_bad_starts(self):
        for start in NO_INTEGERS:
            raises(self, BadNumber("start", start), Rounds, start, (T,), (), (F,))
            raises(self, BadNumber("start", start), Rounds, start, None, None, None)

    def test_bad_rows(self):
        rows = NO_ROWS + tuple((T, item, F) for item in NO_TRUTHS) + tuple([item] for item in NO_TRUTHS)
        for row in rows + ((), []):
            raises(self, BadRow(row), Rounds, 0, row, (), (F,))
            raises(self, BadRow(row), Rounds, 0, row, None, None)
            raises(self, BadRow(row), Rounds, 0, (T,), (), row)
        for row in rows:
            raises(self, BadRow(row), Rounds, 0, (T,), row, (F,))
            raises(self, BadRow(row), Rounds, 0, (T,), row, ())
        self.assertEqual(Rounds(0, (T,), [], (F,)).middle, ())


if __name__ == "__main__":
    unittest.main()
