"""[2], [4], [5], [6]: moves, goals, books, and what holds at a count."""

import unittest

from anylead.books import Book, Goal, Move, after, holds, is_goal, open_moves
from anylead.errors import BadBook, BadNumber, BadPlace, NoMove
from helpers import (FAR, NO_INTEGERS, NO_ROWS, goal_plainly, holds_plainly, open_plainly, raises, rng, some_book,
                     some_conditions)

BAD_CONDITIONS = (
    None, 5, "least", (("least", 1), 5), (None,), ("least", 1), ((),), (("least",),), (("least", 1, 2),), (("lest", 1),),
    (("Least", 1),), ((1, 1),), ((None, 1),), (("least", True),), (("most", 1.0),), (("is", "1"),), (("not", None),),
    (("not", (1,)),), (("rest", 3),), (("rest", 3, 1, 1),), (("rest", 0, 0),), (("rest", -3, 0),), (("rest", 3, 3),),
    (("rest", 3, -1),), (("rest", True, 0),), (("rest", 3, False),), (("rest", 1, 1),), (("rest", "3", 0),),
    (("least", 1), ("rest", 3, 5)), ("rest", 3, 1), ((("least",), 1),), ({"least": 1},), (b"is", 1), ((b"is", 1),),
    ("is", "not"), ("least1",), {},
)
GOOD_CONDITIONS = (
    (), (("least", 0),), (("most", -10 ** 60),), (("is", 10 ** 60),), (("not", -1),), (("rest", 1, 0),), (("rest", 6, 5),),
    (("least", 1), ("most", 0), ("rest", 2, 1), ("is", 1), ("not", 1)),
)


class Kept(unittest.TestCase):
    def test_moves_and_goals_keep_what_they_are_given(self):
        move = Move(1, (("least", 3),), -2, 0)
        self.assertEqual((move.place, move.conditions, move.shift, move.target), (1, (("least", 3),), -2, 0))
        goal = Goal(2, (("rest", 3, 1), ("not", 4)))
        self.assertEqual((goal.place, goal.conditions), (2, (("rest", 3, 1), ("not", 4))))

    def test_conditions_are_kept_with_all_lists_as_tuples(self):
        for kind in (lambda conditions: Move(0, conditions, 1, 0), lambda conditions: Goal(0, conditions)):
            self.assertEqual(kind([["least", 3], ("most", 4)]).conditions, (("least", 3), ("most", 4)))
            self.assertEqual(kind((["least", 3],)).conditions, (("least", 3),))
            self.assertEqual(kind([]).conditions, ())
            self.assertEqual(kind([[[1], ([2],)]]).conditions, (((1,), ((2,),)),))
            self.assertIs(type(kind([["is", 1]]).conditions[0]), tuple)

    def test_all_other_values_stay_as_they_are(self):
        shift = [1, [2]]
        move = Move([0], "abc", shift, None)
        self.assertEqual((move.place, move.conditions, move.target), ([0], "abc", None))
        self.assertIs(move.shift, shift)
        goal = Goal([True], None)
        self.assertEqual((goal.place, goal.conditions), ([True], None))

    def test_changed_lists_change_no_move_and_no_goal(self):
        conditions = [["least", 3]]
        move = Move(0, conditions, 1, 0)
        goal = Goal(0, conditions)
        conditions[0][1] = 9
        conditions.append(["is", 1])
        self.assertEqual(move.conditions, (("least", 3),))
        self.assertEqual(goal.conditions, (("least", 3),))

    def test_changed_lists_change_no_book(self):
        sides, moves, goals = [0, 1], [Move(0, [], 1, 1)], [Goal(1, [])]
        book = Book(sides, moves, goals)
        sides[0] = 1
        moves.append(Move(1, [], 1, 1))
        goals.clear()
        self.assertEqual(book, Book((0, 1), (Move(0, (), 1, 1),), (Goal(1, ()),)))

    def test_equal_moves(self):
        move = Move(0, (("least", 3),), 1, 2)
        self.assertTrue(move == Move(0, [["least", 3]], 1, 2))
        self.assertTrue(move == move)
        self.assertFalse(move != Move(0, [["least", 3]], 1, 2))
        for other in (Move(1, (("least", 3),), 1, 2), Move(0, (("least", 4),), 1, 2), Move(0, (("least", 3),), 2, 2),
                      Move(0, (("least", 3),), 1, 1), Move(0, (("least", 3), ("least", 3)), 1, 2), Move(0, (), 1, 2),
                      Goal(0, (("least", 3),)), None, 0, "move", (0, (("least", 3),), 1, 2), object()):
            self.assertFalse(move == other)
            self.assertTrue(move != other)

    def test_equal_goals(self):
        goal = Goal(0, (("least", 3),))
        self.assertTrue(goal == Goal(0, [["least", 3]]))
        self.assertFalse(goal != Goal(0, [["least", 3]]))
        for other in (Goal(1, (("least", 3),)), Goal(0, (("least", 2),)), Goal(0, ()), Move(0, (("least", 3),), 0, 0),
                      None, 0, "goal", (0, (("least", 3),))):
            self.assertFalse(goal == other)

    def test_equal_books(self):
        move, other_move, goal, other_goal = Move(0, (), 1, 1), Move(1, (), 1, 0), Goal(0, ()), Goal(1, ())
        book = Book((0, 1), (move, other_move), (goal, other_goal))
        self.assertTrue(book == Book([0, 1], [Move(0, [], 1, 1), Move(1, [], 1, 0)], [Goal(0, []), Goal(1, [])]))
        for other in (Book((1, 1), (move, other_move), (goal, other_goal)), Book((0, 1), (other_move, move), (goal, other_goal)),
                      Book((0, 1), (move, other_move), (other_goal, goal)), Book((0, 1), (move,), (goal, other_goal)),
                      Book((0, 1), (move, other_move), (goal,)), Book((0, 1, 0), (move, other_move), (goal, other_goal)),
                      move, None, 1, "book", ((0, 1), (move, other_move), (goal, other_goal))):
            self.assertFalse(book == other)
            self.assertTrue(book != other)


class Books(unittest.TestCase):
    def test_attributes(self):
        moves = (Move(0, (("rest", 3, 0),), 4, 1), Move(1, (), -2, 1))
        goals = (Goal(1, (("is", 0),)),)
        for kind in (tuple, list):
            book = Book(kind((0, 1)), kind(moves), kind(goals))
            self.assertEqual((book.sides, book.moves, book.goals, book.places), ((0, 1), moves, goals, 2))
            self.assertEqual([type(row) for row in (book.sides, book.moves, book.goals)], [tuple] * 3)
        self.assertEqual((Book((1,), (), ()).moves, Book((1,), (), ()).goals, Book((1,), (), ()).places), ((), (), 1))

    def test_bad_sides(self):
        for sides in NO_ROWS + ((), []):
            raises(self, BadBook("sides", None), Book, sides, (), ())
        for item in NO_INTEGERS + (2, -1, 10 ** 60):
            raises(self, BadBook("sides", 0), Book, (item,), (), ())
            raises(self, BadBook("sides", 2), Book, [0, 1, item, 0, item], (), ())

    def test_bad_moves(self):
        good = Move(0, (), 1, 1)
        for moves in NO_ROWS:
            raises(self, BadBook("moves", None), Book, (0, 1), moves, ())
        bad = [None, 3, "move", (0, (), 1, 1), Goal(0, ()), Move]
        bad += [Move(place, (), 1, 1) for place in NO_INTEGERS + (-1, 2, 10 ** 60)]
        bad += [Move(0, (), 1, place) for place in NO_INTEGERS + (-1, 2, 10 ** 60)]
        bad += [Move(0, (), shift, 1) for shift in NO_INTEGERS]
        bad += [Move(0, conditions, 1, 1) for conditions in BAD_CONDITIONS]
        for item in bad:
            raises(self, BadBook("moves", 0), Book, (0, 1), (item,), ())
            raises(self, BadBook("moves", 1), Book, (0, 1), [good, item, good, item], ())

    def test_bad_goals(self):
        good = Goal(0, ())
        for goals in NO_ROWS:
            raises(self, BadBook("goals", None), Book, (0, 1), (), goals)
        bad = [None, 3, "goal", (0, ()), Move(0, (), 1, 1), Goal]
        bad += [Goal(place, ()) for place in NO_INTEGERS + (-1, 2, 10 ** 60)]
        bad += [Goal(0, conditions) for conditions in BAD_CONDITIONS]
        for item in bad:
            raises(self, BadBook("goals", 0), Book, (0, 1), (), (item,))
            raises(self, BadBook("goals", 1), Book, (0, 1), (), [good, item, good, item])

    def test_good_conditions_and_shifts(self):
        for conditions in GOOD_CONDITIONS:
            for shift in (0, -4, 10 ** 60):
                book = Book((0, 1), (Move(1, conditions, shift, 0),), (Goal(1, conditions),))
                self.assertEqual(book.moves[0].conditions, conditions)
                self.assertEqual(book.moves[0].shift, shift)

    def test_the_first_error_is_raised(self):
        raises(self, BadBook("sides", None), Book, None, None, None)
        raises(self, BadBook("sides", 1), Book, (0, 5, 5), None, None)
        raises(self, BadBook("sides", 0), Book, (5,), (None,), (None,))
        raises(self, BadBook("moves", None), Book, (0,), None, None)
        raises(self, BadBook("moves", 0), Book, (0,), (None,), None)
        raises(self, BadBook("moves", 0), Book, (0,), (None,), (None,))
        raises(self, BadBook("goals", None), Book, (0,), (Move(0, (), 1, 0),), 7)
        raises(self, BadBook("goals", 0), Book, (0,), (), (Goal(1, ()), None))


class Holding(unittest.TestCase):
    def borders(self, word, numbers, expected):
        for n, wanted in expected.items():
            self.assertIs(holds(((word,) + numbers,), n), wanted, (word, numbers, n))
            self.assertIs(holds([[word] + list(numbers)], n), wanted, (word, numbers, n))

    def test_each_sort_at_its_border(self):
        for k in (0, 3, -3, FAR, -FAR):
            self.borders("least", (k,), {k - 1: False, k: True, k + 1: True})
            self.borders("most", (k,), {k - 1: True, k: True, k + 1: False})
            self.borders("is", (k,), {k - 1: False, k: True, k + 1: False})
            self.borders("not", (k,), {k - 1: True, k: False, k + 1: True})
        for k in (0, 4, -4, 10 ** 59, -10 ** 59):
            self.borders("rest", (4, 3), {k - 1: True, k: False, k + 1: False, k + 2: False, k + 3: True})
            self.borders("rest", (1, 0), {k - 1: True, k: True, k + 1: True})
            self.borders("rest", (2, 0), {k - 1: False, k: True, k + 1: False})

    def test_rows_of_conditions(self):
        for n in (-FAR, -1, 0, 1, FAR):
            self.assertIs(holds((), n), True)
            self.assertIs(holds([], n), True)
        row = (("least", -3), ("most", 3), ("rest", 3, 0), ("not", 0))
        self.assertEqual([n for n in range(-9, 10) if holds(row, n)], [-3, 3])
        self.assertIs(holds((("is", 1), ("is", 2)), 1), False)
        chance = rng(5)
        for _ in range(200):
            row = some_conditions(chance)
            for n in range(-8, 9):
                self.assertIs(holds(row, n), holds_plainly(row, n))

    def test_bad_count(self):
        for n in NO_INTEGERS:
            raises(self, BadNumber("count", n), holds, (), n)
            raises(self, BadNumber("count", n), holds, [("least", 1)], n)

    def test_conditions_that_are_handed_stay(self):
        row = [["least", 1], ("rest", 2, 1)]
        holds(row, 3)
        self.assertEqual(row, [["least", 1], ("rest", 2, 1)])


class AtACount(unittest.TestCase):
    book = Book((0, 1, 0), (Move(0, (("least", 1),), -1, 0), Move(1, (), 2, 0), Move(0, (("most", 5),), 3, 1),
                            Move(0, (("rest", 2, 1), ("least", 3)), -10 ** 60, 2)),
                (Goal(0, (("is", 4),)), Goal(1, ()), Goal(0, (("is", -9),))))

    def test_open_moves(self):
        self.assertEqual(open_moves(self.book, 0, 0), (2,))
        self.assertEqual(open_moves(self.book, 0, 1), (0, 2))
        self.assertEqual(open_moves(self.book, 0, 3), (0, 2, 3))
        self.assertEqual(open_moves(self.book, 0, 6), (0,))
        self.assertEqual(open_moves(self.book, 0, FAR), (0,) if FAR % 2 == 0 else (0, 3))
        self.assertEqual(open_moves(self.book, 2, 0), ())
        self.assertIs(type(open_moves(self.book, 2, 0)), tuple)

    def test_open_moves_are_told_at_a_goal_too(self):
        self.assertEqual(open_moves(self.book, 0, 4), (0, 2))
        self.assertEqual(open_moves(self.book, 1, -FAR), (1,))

    def test_is_goal(self):
        self.assertEqual([n for n in range(-12, 13) if is_goal(self.book, 0, n) is True], [-9, 4])
        self.assertIs(is_goal(self.book, 0, 5), False)
        self.assertIs(is_goal(self.book, 1, FAR), True)
        self.assertIs(is_goal(self.book, 2, 4), False)

    def test_after(self):
        self.assertEqual(after(self.book, 0, 1), (0, 0))
        self.assertEqual(after(self.book, 1, -FAR), (0, 2 - FAR))
        self.assertEqual(after(self.book, 2, 4), (1, 7))
        self.assertEqual(after(self.book, 3, 3), (2, 3 - 10 ** 60))
        self.assertIs(type(after(self.book, 0, 1)), tuple)

    def test_many_books(self):
        chance = rng(6)
        for _ in range(60):
            book = some_book(chance)
            for place in range(book.places):
                for n in list(range(-7, 8)) + [FAR, -FAR]:
                    self.assertEqual(open_moves(book, place, n), tuple(open_plainly(book, place, n)))
                    self.assertIs(is_goal(book, place, n), goal_plainly(book, place, n))

    def test_errors_of_a_state(self):
        for call in (open_moves, is_goal):
            for place in NO_INTEGERS + (-1, 3, 10 ** 60):
                raises(self, BadPlace(place), call, self.book, place, 0)
                raises(self, BadPlace(place), call, self.book, place, None)
            for n in NO_INTEGERS:
                raises(self, BadNumber("count", n), call, self.book, 2, n)

    def test_errors_of_after(self):
        for n in NO_INTEGERS:
            raises(self, BadNumber("count", n), after, self.book, 0, n)
            raises(self, BadNumber("count", n), after, self.book, None, n)
        for index in NO_INTEGERS + (-1, 4, 10 ** 60):
            raises(self, NoMove(index), after, self.book, index, 3)
        raises(self, NoMove(0), after, self.book, 0, 0)
        raises(self, NoMove(2), after, self.book, 2, 6)
        raises(self, NoMove(3), after, self.book, 3, 4)


if __name__ == "__main__":
    unittest.main()
