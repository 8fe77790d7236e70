"""[7]: books made of others."""

import unittest

from anylead.books import Book, Goal, Move, after, beside, is_goal, lifted, mirrored, numbered, open_moves, without
from anylead.errors import BadNumber, BadRow, NoMove
from helpers import FAR, NO_INTEGERS, NO_ROWS, raises, rng, some_book

ALL_SORTS = (("least", 3), ("most", -4), ("is", 5), ("not", -6), ("rest", 5, 2), ("rest", 3, 0), ("rest", 1, 0))
BOOK = Book((0, 1), (Move(0, ALL_SORTS, 2, 1), Move(1, (), -3, 0), Move(1, (("least", FAR),), 0, 1)),
            (Goal(1, ALL_SORTS), Goal(0, (("most", -FAR),))))
COUNTS = list(range(-13, 14)) + [FAR - 1, FAR, FAR + 1, -FAR - 1, -FAR, -FAR + 1]


class Turned(unittest.TestCase):
    def test_mirrored_words(self):
        sorts = (("most", -3), ("least", 4), ("is", -5), ("not", 6), ("rest", 5, 3), ("rest", 3, 0), ("rest", 1, 0))
        self.assertEqual(mirrored(BOOK), Book(
            (0, 1), (Move(0, sorts, -2, 1), Move(1, (), 3, 0), Move(1, (("most", -FAR),), 0, 1)),
            (Goal(1, sorts), Goal(0, (("least", FAR),)))))

    def test_lifted_words(self):
        sorts = (("least", 1), ("most", -6), ("is", 3), ("not", -8), ("rest", 5, 0), ("rest", 3, 1), ("rest", 1, 0))
        self.assertEqual(lifted(BOOK, -2), Book(
            (0, 1), (Move(0, sorts, 2, 1), Move(1, (), -3, 0), Move(1, (("least", FAR - 2),), 0, 1)),
            (Goal(1, sorts), Goal(0, (("most", -FAR - 2),)))))

    def test_mirrored_plays_at_minus_n(self):
        chance = rng(11)
        for book in [BOOK] + [some_book(chance) for _ in range(40)]:
            other = mirrored(book)
            self.assertEqual(other.sides, book.sides)
            self.assertEqual(mirrored(other), book)
            for place in range(book.places):
                for n in COUNTS:
                    self.assertEqual(open_moves(other, place, -n), open_moves(book, place, n))
                    self.assertEqual(is_goal(other, place, -n), is_goal(book, place, n))
                    for index in open_moves(book, place, n):
                        target, count = after(book, index, n)
                        self.assertEqual(after(other, index, -n), (target, -count))

    def test_lifted_plays_at_n_plus_by(self):
        chance = rng(12)
        for book in [BOOK] + [some_book(chance) for _ in range(25)]:
            for by in (0, 1, -1, 7, FAR, -FAR):
                other = lifted(book, by)
                self.assertEqual(other.sides, book.sides)
                self.assertEqual(lifted(other, -by), book)
                for place in range(book.places):
                    for n in COUNTS:
                        self.assertEqual(open_moves(other, place, n + by), open_moves(book, place, n))
                        self.assertEqual(is_goal(other, place, n + by), is_goal(book, place, n))
                        for index in open_moves(book, place, n):
                            target, count = after(book, index, n)
                            self.assertEqual(after(other, index, n + by), (target, count + by))

    def test_lifted_by_no_integer(self):
        for by in NO_INTEGERS:
            raises(self, BadNumber("by", by), lifted, BOOK, by)


class Placed(unittest.TestCase):
    def test_beside(self):
        one = Book((0, 0, 1), (Move(2, (("is", 1),), 4, 0),), (Goal(1, ()),))
        self.assertEqual(beside(one, BOOK), Book(
            (0, 0, 1, 0, 1),
            (Move(2, (("is", 1),), 4, 0), Move(3, ALL_SORTS, 2, 4), Move(4, (), -3, 3), Move(4, (("least", FAR),), 0, 4)),
            (Goal(1, ()), Goal(4, ALL_SORTS), Goal(3, (("most", -FAR),)))))
        self.assertEqual(beside(BOOK, one).moves[3], Move(4, (("is", 1),), 4, 2))
        self.assertEqual(beside(BOOK, BOOK).places, 4)

    def test_numbered(self):
        book = Book((0, 1, 1), (Move(0, (("is", 1),), 4, 1), Move(2, (), 0, 2), Move(1, (), 5, 0)),
                    (Goal(2, ()), Goal(0, (("is", 2),))))
        wanted = Book((1, 1, 0), (Move(2, (("is", 1),), 4, 0), Move(1, (), 0, 1), Move(0, (), 5, 2)),
                      (Goal(1, ()), Goal(2, (("is", 2),))))
        self.assertEqual(numbered(book, (2, 0, 1)), wanted)
        self.assertEqual(numbered(book, [2, 0, 1]), wanted)
        self.assertEqual(numbered(book, (0, 1, 2)), book)

    def test_numbered_sides(self):
        book = Book((0, 1, 1, 1), (), ())
        self.assertEqual(numbered(book, (3, 0, 1, 2)).sides, (1, 1, 1, 0))
        self.assertEqual(numbered(book, (1, 2, 3, 0)).sides, (1, 0, 1, 1))

    def test_numbered_by_no_order(self):
        for order in NO_ROWS + ((), (0,), (0, 0), (1, 1), (0, 2), (-1, 0), (0, 1, 2), (0, 1, 1), (False, True),
                                [0, True], (0.0, 1.0), ("0", "1"), (0, None), ((0,), (1,)), [[], 0]):
            raises(self, BadRow(order), numbered, BOOK, order)

    def test_without(self):
        for index in range(3):
            rest = tuple(move for k, move in enumerate(BOOK.moves) if k != index)
            self.assertEqual(without(BOOK, index), Book(BOOK.sides, rest, BOOK.goals))
        self.assertEqual(without(Book((0,), (Move(0, (), 1, 0),), ()), 0), Book((0,), (), ()))
        for index in NO_INTEGERS + (-1, 3, 10 ** 60):
            raises(self, NoMove(index), without, BOOK, index)

    def test_equal_moves_are_told_apart_by_their_index(self):
        move = Move(0, (), 1, 0)
        self.assertEqual(len(without(Book((0,), (move, move, move), ()), 1).moves), 2)

    def test_the_books_that_are_handed_stay(self):
        book = Book((0, 1), (Move(0, ALL_SORTS, 2, 1),), (Goal(1, ALL_SORTS),))
        order = [1, 0]
        for made in (mirrored(book), lifted(book, 3), beside(book, book), numbered(book, order), without(book, 0)):
            self.assertIsInstance(made, Book)
        self.assertEqual(book, Book((0, 1), (Move(0, ALL_SORTS, 2, 1),), (Goal(1, ALL_SORTS),)))
        self.assertEqual(order, [1, 0])


if __name__ == "__main__":
    unittest.main()
