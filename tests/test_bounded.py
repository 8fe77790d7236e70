"""[21] to [25]: what is forced, reckoned state by state."""

import unittest

from anylead.books import Book, Goal, Move, after
from anylead.bounded import Window, least_turns, sandwich, table_of
from anylead.errors import BadNumber, BadPlace
from anylead.forcing import forces
from anylead.rounds import Rounds, between, just, listed, none
from helpers import (FAR, NO_INTEGERS, forces_plainly, goal_plainly, great_book, least_plainly, open_plainly, raises, rng,
                     some_book)

T, F = True, False
NO_PLACES = NO_INTEGERS + (-1, 2, FAR)
# FIRST goes down to 0 by ones or by twos; SECOND goes down by ones or by threes, or stands still from 9 on.
DOWN = Book((0, 1), (Move(0, (("least", 1),), -1, 0), Move(0, (("least", 2), ("rest", 2, 0)), -2, 0),
                     Move(1, (("least", 3),), -3, 1), Move(1, (("least", 1),), -1, 1), Move(1, (("least", 9),), 0, 1)),
            (Goal(0, (("is", 0),)), Goal(1, (("is", 0),))))


class LeastTurns(unittest.TestCase):
    def test_at_beyond_and_below_what_is_enough(self):
        self.assertEqual([least_turns(DOWN, 0, 9, most) for most in (0, 4, 5, 6, 60)], [None, None, 5, 5, 5])
        self.assertEqual([least_turns(DOWN, 1, 5, most) for most in (0, 4, 5, 6)], [None, None, 5, 5])
        self.assertEqual([least_turns(DOWN, 1, 9, most) for most in (0, 9, 60)], [None] * 3)
        self.assertEqual(least_turns(DOWN, 0, 0, 0), 0)
        self.assertEqual(least_turns(DOWN, 1, -5, 0), 0)
        self.assertEqual(least_turns(DOWN, 0, -5, 60), None)
        self.assertEqual(least_turns(DOWN, 0, 120, 60), 60)
        self.assertEqual(least_turns(DOWN, 0, 121, 60), None)
        self.assertEqual(least_turns(DOWN, 0, FAR, 60), None)

    def test_many_books_by_the_words(self):
        chance = rng(81)
        for _ in range(120):
            book = some_book(chance)
            told = forces_plainly(book)
            for place in range(book.places):
                for n in range(-7, 8, 2):
                    for most in (0, 1, 2, 7):
                        self.assertEqual(least_turns(book, place, n, most), least_plainly(told, most, place, n))

    def test_far_counts(self):
        book = Book((0, 1), (Move(0, (), -1, 0), Move(1, (("least", FAR),), -4, 0)), (Goal(0, (("is", FAR),)),))
        self.assertEqual(least_turns(book, 0, FAR + 60, 60), 60)
        self.assertEqual(least_turns(book, 1, FAR + 5, 60), 2)
        self.assertEqual(least_turns(book, 1, FAR + 4, 60), 1)
        self.assertEqual(least_turns(book, 1, FAR + 3, 60), None)
        self.assertEqual(least_turns(book, 1, FAR - 1, 60), 0)

    def test_errors_in_their_order(self):
        for place in NO_PLACES:
            raises(self, BadPlace(place), least_turns, DOWN, place, None, None)
        for value in NO_INTEGERS:
            raises(self, BadNumber("count", value), least_turns, DOWN, 0, value, -1)
        for value in NO_INTEGERS + (-1, -FAR):
            raises(self, BadNumber("most", value), least_turns, DOWN, 0, 0, value)


class Tables(unittest.TestCase):
    def test_a_table(self):
        self.assertEqual(table_of(DOWN, -1, 5, 3), ((None, 0, 1, 1, 2, 2, 3), (0, 0, 1, 2, 3, None, None)))
        self.assertEqual(table_of(DOWN, -1, 5, 2), ((None, 0, 1, 1, 2, 2, None), (0, 0, 1, 2, None, None, None)))
        self.assertEqual(table_of(DOWN, 3, 3, 60), ((2,), (3,)))
        self.assertEqual(table_of(DOWN, 3, 2, 60), ((), ()))
        self.assertEqual(table_of(DOWN, FAR, -FAR, 60), ((), ()))
        self.assertEqual(table_of(DOWN, 0, 3, 0), ((0, None, None, None), (0, None, None, None)))

    def test_rows_are_tuples(self):
        table = table_of(DOWN, 0, 1, 1)
        self.assertEqual([type(table)] + [type(row) for row in table], [tuple] * 3)

    def test_items_are_least_turns(self):
        chance = rng(82)
        for _ in range(60):
            book = some_book(chance)
            for most in (0, 1, 3, 6):
                for low in (-6, FAR):
                    wanted = tuple(tuple(least_turns(book, place, n, most) for n in range(low, low + 11))
                                   for place in range(book.places))
                    self.assertEqual(table_of(book, low, low + 10, most), wanted)

    def test_a_number_beyond_most_is_none_though_the_way_stays_near(self):
        # From place 0 the way leads through all places; each of them is near some start.
        book = Book((0,) * 6, tuple(Move(place, (), 0, place + 1) for place in range(5)), (Goal(5, ()),))
        self.assertEqual(table_of(book, 0, 0, 3), ((None,), (None,), (3,), (2,), (1,), (0,)))

    def test_great_books_in_good_time(self):
        chance = rng(83)
        for low in (-100, FAR):
            book = great_book(chance)
            table = table_of(book, low, low + 200, 60)
            self.assertEqual([len(row) for row in table], [201] * 12)
            for place in range(12):
                for n in range(low, low + 201, 67):
                    self.assertEqual(table[place][n - low], least_turns(book, place, n, 60))

    def test_errors_in_their_order(self):
        for value in NO_INTEGERS:
            raises(self, BadNumber("low", value), table_of, DOWN, value, None, None)
            raises(self, BadNumber("high", value), table_of, DOWN, 0, value, -1)
        for value in NO_INTEGERS + (-1,):
            raises(self, BadNumber("most", value), table_of, DOWN, 0, 5, value)
            raises(self, BadNumber("most", value), table_of, DOWN, 5, 0, value)


class Windows(unittest.TestCase):
    def test_attributes(self):
        window = Window(DOWN, -3, 9, True)
        self.assertIs(window.book, DOWN)
        self.assertEqual((window.low, window.high), (-3, 9))
        self.assertIs(window.beyond, True)
        self.assertIs(Window(DOWN, 4, 4, False).beyond, False)
        self.assertTrue(window == window)
        self.assertFalse(window == Window(DOWN, -3, 9, True))

    def test_turns_near(self):
        window = Window(DOWN, 0, 9, False)
        self.assertEqual([window.turns(0, n) for n in range(-2, 12)], [None, None, 0, 1, 1, 2, 2, 3, 3, 4, 4, 5, None, None])
        self.assertEqual([window.turns(1, n) for n in range(-1, 11)], [None, 0, 1, 2, 3, 4, 5, 6, 7, 8, None, None])
        window = Window(DOWN, 2, 9, True)
        self.assertEqual([window.turns(0, n) for n in range(0, 11)], [0, 0, 1, 2, 2, 3, 3, 4, 4, 5, 0])
        self.assertEqual([window.turns(1, n) for n in range(0, 12)], [0, 0, 1, 2, 3, 4, 5, 6, 7, None, 0, 0])
        window = Window(DOWN, 2, 9, False)
        self.assertEqual([window.turns(0, n) for n in range(0, 11)], [None] * 11)

    def test_beyond_goes_ahead_of_goals_and_of_a_stuck_second(self):
        book = Book((0, 1), (), (Goal(0, ()),))
        for beyond, told in ((True, 0), (False, None)):
            window = Window(book, 1, 3, beyond)
            self.assertEqual([window.turns(0, n) for n in range(0, 5)], [told, 0, 0, 0, told])
            self.assertEqual([window.turns(1, n) for n in range(0, 5)], [told, 0, 0, 0, told])
            self.assertEqual(window.wins(0), between(1, 3))
            self.assertEqual(window.wins(1), between(1, 3))
            self.assertEqual([window.turns(0, FAR), window.turns(1, -FAR)], [told, told])

    def windows(self, book, low, high, beyond):
        told = forces_plainly(book, (low, high, beyond))
        most = book.places * (high - low + 1) + 1
        window = Window(book, low, high, beyond)
        turns = {(place, n): least_plainly(told, most, place, n)
                 for place in range(book.places) for n in range(low - 4, high + 5)}
        for (place, n), number in turns.items():
            self.assertEqual(window.turns(place, n), number)
            self.assertEqual(window.best(place, n), self.best(book, window, turns, place, n))
            self.line(book, window, turns, place, n)
        for place in range(book.places):
            self.assertEqual(window.wins(place), listed([n for n in range(low, high + 1) if turns[place, n] is not None]))

    def best(self, book, window, turns, place, n):
        if not window.low <= n <= window.high or goal_plainly(book, place, n):
            return None
        number = turns[place, n]
        wanted = None if number is None else number - 1
        moves = open_plainly(book, place, n)
        return next(i for i in moves if turns[after(book, i, n)] == wanted) if moves else None

    def line(self, book, window, turns, place, n):
        line = window.best_line(place, n)
        if turns[place, n] is None:
            self.assertIsNone(line)
            return
        self.assertIs(type(line), tuple)
        self.assertEqual(len(line), turns[place, n])
        for index in line:
            self.assertEqual(index, window.best(place, n))
            place, n = after(book, index, n)
        self.assertIsNone(window.best(place, n))
        self.assertEqual(window.turns(place, n), 0)

    def test_many_books_by_the_words(self):
        chance = rng(84)
        for _ in range(100):
            book = some_book(chance)
            low = chance.randint(-7, 2)
            for beyond in (True, False):
                self.windows(book, low, low + chance.randint(0, 7), beyond)

    def test_windows_of_far_counts(self):
        chance = rng(85)
        for low in (FAR, -FAR):
            for _ in range(15):
                self.windows(some_book(chance), low, low + 5, chance.random() < 0.5)

    def test_wins_is_in_the_one_form(self):
        self.assertEqual(Window(DOWN, 0, 9, False).wins(1), between(0, 8))
        self.assertEqual(Window(DOWN, 2, 9, True).wins(1), between(2, 8))
        self.assertEqual(Window(DOWN, 2, 9, False).wins(0), none())
        self.assertEqual(Window(DOWN, 0, 0, False).wins(0), just(0))
        self.assertIsInstance(Window(DOWN, 0, 9, False).wins(0), Rounds)

    def test_best_moves_of_both_sides(self):
        window = Window(DOWN, 0, 12, False)
        self.assertEqual([window.best(0, n) for n in (0, 1, 2, 3, 8, 9)], [None, 0, 1, 0, 1, 0])
        self.assertEqual([window.best(1, n) for n in (0, 1, 2, 3, 8, 9, 12)], [None, 3, 3, 3, 3, 4, 2])
        self.assertEqual([window.best(0, n) for n in (-1, 13)], [None, None])
        self.assertEqual(window.best_line(0, 9), (0, 1, 1, 1, 1))
        self.assertEqual(window.best_line(1, 5), (3, 3, 3, 3, 3))
        self.assertEqual(window.best_line(0, 0), ())
        self.assertIsNone(window.best_line(1, 9))
        self.assertIsNone(window.best_line(0, 13))
        self.assertEqual(Window(DOWN, 0, 12, True).best_line(0, 13), ())

    def test_a_best_move_without_an_open_one(self):
        book = Book((0, 1), (Move(0, (("is", 3),), 0, 0), Move(1, (("is", 3),), 0, 1)), ())
        window = Window(book, 0, 5, True)
        self.assertEqual([window.best(place, 2) for place in (0, 1)], [None, None])
        self.assertEqual([window.best(place, 3) for place in (0, 1)], [0, 1])
        self.assertEqual([window.best_line(place, 2) for place in (0, 1)], [None, ()])

    def test_facts_of_the_endless_game(self):
        chance = rng(86)
        for _ in range(40):
            book = some_book(chance)
            for place in range(book.places):
                for n in (-3, 0, 4):
                    for k in (0, 2, 5):
                        least = least_turns(book, place, n, k)
                        for beyond in (True, False):
                            number = Window(book, n - 3 * k, n + 3 * k, beyond).turns(place, n)
                            self.assertEqual(least, number if number is not None and number <= k else None)

    def test_great_windows_in_good_time(self):
        chance = rng(87)
        for low in (-200, FAR):
            book = great_book(chance)
            for beyond in (True, False):
                window = Window(book, low, low + 400, beyond)
                for place in range(12):
                    self.assertLessEqual(window.wins(place).many(-2 * FAR, 2 * FAR), 401)
                    window.best_line(place, low + 200)
        book = Book((0,), (Move(0, (), 1, 0),), ())
        self.assertEqual(Window(book, 0, 400, True).best_line(0, 0), (0,) * 401)
        self.assertIsNone(Window(book, 0, 400, False).best_line(0, 0))

    def test_errors_of_the_class(self):
        for value in NO_INTEGERS:
            raises(self, BadNumber("low", value), Window, DOWN, value, None, None)
        for value in NO_INTEGERS + (4, -FAR):
            raises(self, BadNumber("high", value), Window, DOWN, 5, value, None)
        for value in (0, 1, None, "True", 1.0, (True,), []):
            raises(self, BadNumber("beyond", value), Window, DOWN, 5, 5, value)

    def test_errors_of_the_methods(self):
        window = Window(DOWN, 0, 9, True)
        for call in (window.turns, window.best, window.best_line):
            for place in NO_PLACES:
                raises(self, BadPlace(place), call, place, None)
                raises(self, BadPlace(place), call, place, FAR)
            for n in NO_INTEGERS:
                raises(self, BadNumber("count", n), call, 0, n)
        for place in NO_PLACES:
            raises(self, BadPlace(place), window.wins, place)


class Sandwich(unittest.TestCase):
    def test_true_false_and_none(self):
        self.assertIs(sandwich(DOWN, 0, 9, 9), True)
        self.assertIs(sandwich(DOWN, 0, 9, 8), None)
        self.assertIs(sandwich(DOWN, 1, 9, 8), False)
        self.assertIs(sandwich(DOWN, 1, 9, 0), False)
        self.assertIs(sandwich(DOWN, 0, -4, 0), False)
        self.assertIs(sandwich(DOWN, 0, 0, 0), True)
        self.assertIs(sandwich(DOWN, 0, FAR, 200), None)
        self.assertIs(sandwich(DOWN, 1, FAR, 200), False)
        self.assertIs(sandwich(DOWN, 0, 200, 200), True)
        self.assertIs(sandwich(DOWN, 0, 200, 199), None)

    def test_both_borders(self):
        up = Book((0,), (Move(0, (), 1, 0),), (Goal(0, (("is", 5),)),))
        self.assertIs(sandwich(up, 0, 0, 5), True)
        self.assertIs(sandwich(up, 0, 0, 4), None)
        self.assertIs(sandwich(up, 0, 6, 200), None)

    def test_what_both_windows_tell(self):
        chance = rng(88)
        for _ in range(60):
            book = some_book(chance)
            for place in range(book.places):
                for n in (-4, 0, 5, FAR):
                    for width in (0, 1, 6):
                        least = Window(book, n - width, n + width, False).turns(place, n)
                        most = Window(book, n - width, n + width, True).turns(place, n)
                        wanted = True if least is not None else False if most is None else None
                        self.assertIs(sandwich(book, place, n, width), wanted)
                        if wanted:
                            self.assertIs(forces(book, least, place, n), True)
                        if wanted is False:
                            self.assertIs(forces(book, 12, place, n), False)

    def test_errors_in_their_order(self):
        for place in NO_PLACES:
            raises(self, BadPlace(place), sandwich, DOWN, place, None, None)
        for n in NO_INTEGERS:
            raises(self, BadNumber("count", n), sandwich, DOWN, 0, n, -1)
        for width in NO_INTEGERS + (-1, -FAR):
            raises(self, BadNumber("width", width), sandwich, DOWN, 0, 0, width)


if __name__ == "__main__":
    unittest.main()
