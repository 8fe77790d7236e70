"""[9] to [12]: what FIRST forces, and who is stuck."""

import unittest

from anylead.books import Book, Goal, Move
from anylead.errors import BadNumber, BadPlace
from anylead.forcing import forces, is_stuck
from helpers import FAR, NO_INTEGERS, forces_plainly, goal_plainly, great_book, open_plainly, raises, rng, some_book

DOWN = Book((0, 1), (Move(0, (("least", 1),), -1, 0), Move(1, (("least", 1),), -1, 1), Move(1, (("least", 1),), -2, 1)),
            (Goal(0, (("is", 0),)), Goal(1, (("most", 0),))))


class Forces(unittest.TestCase):
    def test_a_goal_needs_no_turn(self):
        for turns in (0, 1, 30):
            self.assertIs(forces(DOWN, turns, 0, 0), True)
            self.assertIs(forces(DOWN, turns, 1, -FAR), True)

    def test_one_turn_more_and_less_than_is_enough(self):
        for n in range(1, 31):
            self.assertIs(forces(DOWN, n - 1, 0, n), False)
            self.assertIs(forces(DOWN, n, 0, n), True)
        for n in range(1, 30):
            self.assertIs(forces(DOWN, n, 1, n), True)
            self.assertIs(forces(DOWN, n - 1, 1, n), False)
            self.assertIs(forces(DOWN, n + 1, 1, n), True)

    def test_a_stuck_second_needs_no_turn_and_a_stuck_first_never_forces(self):
        book = Book((0, 1), (Move(0, (("is", 5),), 0, 1), Move(1, (("is", 7),), 0, 0)), ())
        for turns in range(4):
            self.assertIs(forces(book, turns, 1, 5), True)
            self.assertIs(forces(book, turns, 0, 6), False)
            self.assertIs(forces(book, turns, 1, 7), False)
            self.assertIs(forces(book, turns, 0, 5), turns >= 1)

    def test_a_stuck_first_at_a_goal_has_forced(self):
        book = Book((0,), (), (Goal(0, (("is", 2),)),))
        self.assertIs(forces(book, 0, 0, 2), True)
        self.assertIs(forces(book, 9, 0, 3), False)

    def test_a_goal_ends_the_play_though_second_could_go_on(self):
        book = Book((1, 0), (Move(0, (), 0, 1),), (Goal(0, ()),))
        self.assertIs(forces(book, 0, 0, 0), True)

    def test_second_keeps_away_by_one_move_of_several(self):
        book = Book((1, 0, 0), (Move(0, (), 0, 1), Move(0, (("least", 3),), 0, 2)), (Goal(1, ()),))
        self.assertIs(forces(book, 1, 0, 2), True)
        self.assertIs(forces(book, 0, 0, 2), False)
        self.assertIs(forces(book, 30, 0, 3), False)

    def test_second_s_number_is_the_greatest_one(self):
        book = Book((1, 0), (Move(0, (), 1, 1), Move(0, (), 4, 1), Move(1, (), -1, 1)), (Goal(1, (("is", 0),)),))
        self.assertIs(forces(book, 4, 0, 0), False)
        self.assertIs(forces(book, 5, 0, 0), True)

    def test_plays_that_go_round(self):
        book = Book((0, 1, 0), (Move(0, (), 1, 1), Move(1, (), -1, 0), Move(1, (("least", 9),), 0, 2)), (Goal(2, ()),))
        for turns in range(31):
            self.assertIs(forces(book, turns, 0, 4), False)
            self.assertIs(forces(book, turns, 1, 9), False)

    def test_many_books_by_the_words(self):
        chance = rng(21)
        for _ in range(150):
            book = some_book(chance)
            told = forces_plainly(book)
            for place in range(book.places):
                for n in range(-7, 8, 2):
                    for turns in range(6):
                        self.assertIs(forces(book, turns, place, n), told(turns, place, n))

    def test_far_borders(self):
        book = Book((0, 1), (Move(0, (("least", FAR),), -1, 0), Move(1, (), -4, 0), Move(1, (("most", FAR),), 4, 0)),
                    (Goal(0, (("is", FAR - 1),)),))
        self.assertIs(forces(book, 30, 0, FAR + 29), True)
        self.assertIs(forces(book, 29, 0, FAR + 29), False)
        self.assertIs(forces(book, 30, 1, FAR + 31), True)
        self.assertIs(forces(book, 30, 1, FAR), False)
        self.assertIs(forces(book, 30, 0, -FAR), False)

    def test_great_books_in_good_time(self):
        chance = rng(22)
        for _ in range(4):
            book = great_book(chance)
            told = forces_plainly(book)
            for place in range(0, 12, 3):
                for n in (0, FAR):
                    self.assertIs(forces(book, 30, place, n), told(30, place, n))

    def test_sixty_goals_and_far_numbers(self):
        goals = [Goal(0, (("is", 10 ** 59 + 60 * k), ("rest", 6, (10 ** 59 + 60 * k) % 6))) for k in range(60)]
        book = Book((0,), (Move(0, (), 4, 0), Move(0, (), -3, 0)), goals)
        self.assertIs(forces(book, 15, 0, 10 ** 59 - 60), True)
        self.assertIs(forces(book, 14, 0, 10 ** 59 - 60), False)
        self.assertIs(forces(book, 30, 0, 10 ** 59 + 59 * 60 + 90), True)
        self.assertIs(forces(book, 30, 0, 10 ** 59 + 59 * 60 + 91), False)

    def test_errors_in_their_order(self):
        for place in NO_INTEGERS + (-1, 2):
            raises(self, BadPlace(place), forces, DOWN, None, place, None)
        for n in NO_INTEGERS:
            raises(self, BadNumber("count", n), forces, DOWN, -1, 0, n)
        for turns in NO_INTEGERS + (-1, -FAR):
            raises(self, BadNumber("turns", turns), forces, DOWN, turns, 0, 0)


class Stuck(unittest.TestCase):
    def test_stuck(self):
        book = Book((0, 1), (Move(0, (("least", 1),), -1, 0), Move(1, (("rest", 2, 0),), 0, 0)),
                    (Goal(0, (("is", -3),)), Goal(1, (("is", 3),))))
        self.assertEqual([n for n in range(-5, 4) if is_stuck(book, 0, n) is True], [-5, -4, -2, -1, 0])
        self.assertEqual([n for n in range(-5, 6) if is_stuck(book, 1, n) is True], [-5, -3, -1, 1, 5])
        self.assertIs(is_stuck(book, 0, FAR), False)
        self.assertIs(is_stuck(book, 0, -FAR), True)

    def test_many_books(self):
        chance = rng(23)
        for _ in range(60):
            book = some_book(chance)
            for place in range(book.places):
                for n in range(-7, 8):
                    wanted = not goal_plainly(book, place, n) and not open_plainly(book, place, n)
                    self.assertIs(is_stuck(book, place, n), wanted)

    def test_errors_in_their_order(self):
        for place in NO_INTEGERS + (-1, 2):
            raises(self, BadPlace(place), is_stuck, DOWN, place, None)
        for n in NO_INTEGERS:
            raises(self, BadNumber("count", n), is_stuck, DOWN, 1, n)


if __name__ == "__main__":
    unittest.main()
