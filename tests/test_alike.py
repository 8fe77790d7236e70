"""[29], [30]: places that are alike for all counts."""

import unittest

from anylead.alike import classes, is_alike, least_book, likeness
from anylead.books import Book, Goal, Move, beside, lifted, mirrored, numbered
from anylead.errors import BadPlace
from anylead.forcing import forces
from helpers import NO_INTEGERS, alike_plainly, great_book, raises, rng, some_book, some_doubled_book

NO_PLACES = NO_INTEGERS + (-1, 2, 10 ** 60)
TWO = Book((0, 1), (Move(0, (), -1, 1), Move(1, (), -1, 0)), (Goal(0, (("is", 0),)),))


def pair_of(sides, moves, goals):
    """Whether places 0 and 1 of a book are alike; place 2 has no move, place 3 is a goal at all counts."""
    book = Book(sides + (0, 0), moves, goals + (Goal(3, ()),))
    return is_alike(book, 0, book, 1)


class Pairs(unittest.TestCase):
    def test_conditions_written_otherwise(self):
        two = (0, 0)
        self.assertIs(pair_of(two, (), ()), True)
        self.assertIs(pair_of(two, (Move(0, (("least", 1), ("most", 1)), 1, 2), Move(1, (("is", 1),), 1, 2)), ()), True)
        self.assertIs(pair_of(two, (Move(0, (("rest", 2, 1),), 1, 2), Move(0, (("rest", 2, 0),), 1, 2), Move(1, (), 1, 2)), ()),
                      True)
        self.assertIs(pair_of(two, (Move(0, (("is", 1), ("is", 2)), 1, 2),), ()), True)
        self.assertIs(pair_of(two, (Move(0, (), 1, 2), Move(0, (), 1, 2), Move(1, (), 1, 2)), ()), True)
        self.assertIs(pair_of(two, (), (Goal(0, (("not", 3),)), Goal(0, (("is", 3),)), Goal(1, ()))), True)

    def test_told_apart_by_a_side_or_a_goal(self):
        self.assertIs(pair_of((0, 1), (), ()), False)
        self.assertIs(pair_of((0, 1), (), (Goal(0, ()), Goal(1, ()))), False)
        self.assertIs(pair_of((0, 0), (), (Goal(0, (("is", -12),)),)), False)
        self.assertIs(pair_of((0, 0), (), (Goal(0, (("rest", 6, 5),)), Goal(1, (("rest", 6, 4),)))), False)
        self.assertIs(pair_of((0, 0), (), (Goal(0, (("least", 3),)), Goal(1, (("least", 4),)))), False)

    def test_told_apart_by_a_move(self):
        two = (1, 1)
        self.assertIs(pair_of(two, (Move(0, (), 1, 2),), ()), False)
        self.assertIs(pair_of(two, (Move(1, (("is", -7),), 1, 2),), ()), False)
        self.assertIs(pair_of(two, (Move(0, (), 1, 2), Move(1, (), 2, 2)), ()), False)
        self.assertIs(pair_of(two, (Move(0, (), 1, 2), Move(1, (), 1, 3)), ()), False)
        self.assertIs(pair_of(two, (Move(0, (), 1, 2), Move(1, (), 1, 2), Move(1, (), 1, 3)), ()), False)
        self.assertIs(pair_of(two, (Move(0, (), 1, 2), Move(0, (), 1, 3), Move(1, (), 1, 2)), ()), False)
        self.assertIs(pair_of(two, (Move(0, (("most", -12),), 1, 2), Move(1, (("most", -11),), 1, 2)), ()), False)

    def test_at_a_goal_moves_do_not_count(self):
        goals = (Goal(0, (("least", 0),)), Goal(1, (("least", 0),)))
        self.assertIs(pair_of((0, 0), (Move(0, (("least", 0),), 1, 2), Move(1, (("least", 5),), 4, 3)), goals), True)
        self.assertIs(pair_of((0, 0), (Move(0, (("least", -1),), 1, 2), Move(1, (("least", 5),), 4, 3)), goals), False)

    def test_told_apart_some_moves_away(self):
        chain = [Move(p, (), -1, p + 1) for p in range(5)] + [Move(p, (), -1, p + 1) for p in range(6, 11)]
        sides = [0] * 12
        self.assertIs(is_alike(Book(sides, chain, ()), 0, Book(sides, chain, ()), 6), True)
        for goal, wanted in ((Goal(11, (("is", -12),)), False), (Goal(10, ()), False), (Goal(5, ()), False)):
            book = Book(sides, chain, (goal,))
            self.assertIs(is_alike(book, 0, book, 6), wanted)
            self.assertIs(is_alike(book, 6, book, 0), wanted)
        book = Book(sides, chain, (Goal(11, (("is", -12),)), Goal(5, (("is", -12), ("most", 0)))))
        self.assertIs(is_alike(book, 0, book, 6), True)
        self.assertIs(is_alike(book, 0, book, 7), False)

    def test_a_ring_and_a_line_that_comes_back(self):
        one = Book((0,), (Move(0, (), 1, 0),), ())
        three = Book((0, 0, 0), (Move(0, (), 1, 1), Move(1, (), 1, 2), Move(2, (), 1, 0)), ())
        self.assertEqual(likeness(one, three), ((0, 0), (0, 1), (0, 2)))
        self.assertEqual(likeness(three, one), ((0, 0), (1, 0), (2, 0)))

    def test_errors(self):
        for place in NO_PLACES:
            raises(self, BadPlace(place), is_alike, TWO, place, TWO, None)
            raises(self, BadPlace(place), is_alike, TWO, 1, TWO, place)
        raises(self, BadPlace(2), is_alike, TWO, 2, Book((0, 0, 0), (), ()), 3)
        raises(self, BadPlace(3), is_alike, TWO, 1, Book((0, 0, 0), (), ()), 3)


class Rows(unittest.TestCase):
    def test_likeness_by_striking_out(self):
        chance = rng(291)
        found = 0
        for _ in range(70):
            one, other = some_doubled_book(chance), some_doubled_book(chance)
            for first, second in ((one, one), (one, other), (one, beside(other, one)), (lifted(one, 1), one)):
                wanted = alike_plainly(first, second)
                told = likeness(first, second)
                self.assertEqual(told, tuple(sorted(wanted)))
                self.assertTrue(type(told) is tuple and all(type(pair) is tuple for pair in told))
                for place in range(first.places):
                    for another in range(second.places):
                        self.assertIs(is_alike(first, place, second, another), (place, another) in wanted)
                found += sum(1 for place, another in wanted if first is not second or place != another)
        self.assertGreater(found, 200)

    def test_alike_places_are_forced_alike(self):
        chance = rng(292)
        for _ in range(25):
            book = some_doubled_book(chance)
            for place, another in likeness(book, book):
                for n in range(-9, 10, 3):
                    for turns in (0, 1, 2, 5):
                        self.assertIs(forces(book, turns, place, n), forces(book, turns, another, n))

    def test_books_made_of_others(self):
        chance = rng(293)
        for _ in range(20):
            book = some_book(chance)
            order = list(range(book.places))
            chance.shuffle(order)
            self.assertTrue(all((place, order[place]) in likeness(book, numbered(book, order)) for place in order))
            self.assertEqual(likeness(mirrored(book), mirrored(book)), likeness(book, book))
            self.assertTrue(all((place, book.places + place) in likeness(book, beside(book, book)) for place in order))

    def test_classes(self):
        chance = rng(294)
        for _ in range(60):
            book = some_doubled_book(chance)
            told = classes(book)
            self.assertTrue(type(told) is tuple and len(told) == book.places)
            for at, number in enumerate(told):
                self.assertIs(type(number), int)
                self.assertTrue(number in told[:at] or number == len(set(told[:at])))
            pairs = alike_plainly(book, book)
            for place in range(book.places):
                for another in range(book.places):
                    self.assertEqual(told[place] == told[another], (place, another) in pairs)

    def test_the_greatest_sizes(self):
        chance = rng(295)
        one, other = great_book(chance), great_book(chance)
        self.assertEqual(len(likeness(one, one)) >= 12, True)
        self.assertEqual(likeness(one, other), tuple(sorted(alike_plainly(one, other))))
        line = Book([0] * 12, [Move(p, (("rest", 5, 0),), 1, p + 1) for p in range(11)], (Goal(11, (("is", -12),)),))
        self.assertEqual(likeness(line, line), tuple((p, p) for p in range(12)))
        self.assertEqual(classes(line), tuple(range(12)))


class Least(unittest.TestCase):
    def test_by_the_words(self):
        moves = (Move(2, (), 1, 0), Move(0, (("is", 1),), 1, 2), Move(0, (("is", 1),), 1, 0), Move(1, (), 1, 3),
                 Move(3, (), 5, 1), Move(0, (("most", 1), ("least", 1)), 1, 2), Move(2, (("is", 1),), 1, 0))
        goals = (Goal(3, (("is", 2),)), Goal(1, (("is", 2),)), Goal(1, (("is", 2),)), Goal(0, ()), Goal(2, ()))
        book = Book((1, 0, 1, 0), moves, goals)
        self.assertEqual(classes(book), (0, 1, 0, 2))
        least = least_book(book)
        self.assertEqual(least, Book((1, 0, 0), (
            Move(0, (("is", 1),), 1, 0), Move(1, (), 1, 2), Move(2, (), 5, 1), Move(0, (("most", 1), ("least", 1)), 1, 0)), (
            Goal(2, (("is", 2),)), Goal(1, (("is", 2),)), Goal(0, ()))))

    def test_many_books(self):
        chance = rng(296)
        for _ in range(60):
            book = some_doubled_book(chance)
            numbers, least = classes(book), least_book(book)
            firsts = [numbers.index(number) for number in range(max(numbers) + 1)]
            self.assertEqual(least.sides, tuple(book.sides[place] for place in firsts))
            moves, goals = [], []
            for move in book.moves:
                one = Move(numbers[move.place], move.conditions, move.shift, numbers[move.target])
                if move.place in firsts and one not in moves:
                    moves.append(one)
            for goal in book.goals:
                one = Goal(numbers[goal.place], goal.conditions)
                if goal.place in firsts and one not in goals:
                    goals.append(one)
            self.assertEqual((least.moves, least.goals), (tuple(moves), tuple(goals)))
            self.assertEqual(likeness(least, least), tuple((place, place) for place in range(least.places)))
            self.assertEqual(least_book(least), least)
            for place, number in enumerate(numbers):
                self.assertIs(is_alike(book, place, least, number), True)


if __name__ == "__main__":
    unittest.main()
