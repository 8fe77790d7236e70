"""[36]: counts at which moves are open and places are goals; players and their answers."""

import unittest

from anylead.books import Book, Goal, Move
from anylead.errors import BadNumber, BadPlace, BadRow, NoMove
from anylead.players import answer, course, goal_counts, next_state, open_counts, state_behind
from anylead.rounds import Rounds, all_counts, at_least, at_most, every, just, listed, none
from helpers import (FAR, NO_INTEGERS, NO_ROWS, goal_plainly, great_book, holds_plainly, next_plainly, open_plainly, raises, rng,
                     some_book, some_player)

# FIRST goes down by 1 or 2 from 1, 2 on, or hands on; SECOND goes down by 1 from 1 on.
BOOK = Book((0, 1), (Move(0, (("least", 1),), -1, 0), Move(1, (("least", 1),), -1, 0), Move(0, (("least", 2),), -2, 0),
                     Move(0, (), 0, 1), Move(1, (("rest", 3, 1),), 4, 1)), (Goal(0, (("is", 0),)),))
NO_PLACES = NO_INTEGERS + (-1, 2, FAR)
ALL = all_counts()


class Counts(unittest.TestCase):
    def open_at(self, conditions):
        return open_counts(Book((0,), (Move(0, (), 1, 0), Move(0, conditions, 1, 0)), ()), 1)

    def test_each_condition(self):
        for conditions, wanted in (((), ALL), ((("least", 3),), at_least(3)), ((("most", -3),), at_most(-3)),
                                   ((("is", -12),), just(-12)), ((("not", 12),), ~just(12)), ((("rest", 6, 5),), every(6, 5)),
                                   ((("rest", 1, 0),), ALL), ((("rest", 4, 1), ("rest", 6, 3)), every(12, 9)),
                                   ((("rest", 4, 1), ("rest", 6, 2)), none()), ((("is", 1), ("is", 2)), none()),
                                   ((("least", 3), ("most", 2)), none()), ((("least", 3), ("most", 3)), just(3)),
                                   ((("rest", 5, 2), ("least", -3)), every(5, 2) & at_least(-3)),
                                   ((("is", 10 ** 60),), just(10 ** 60)), ((("most", -10 ** 60),), at_most(-10 ** 60))):
            self.assertTrue(self.open_at(conditions) == wanted, conditions)
            self.assertIs(type(self.open_at(conditions)), Rounds)

    def test_goals_of_a_place(self):
        goals = (Goal(0, (("is", 1),)), Goal(1, ()), Goal(0, (("rest", 4, 2), ("least", 0))), Goal(0, (("is", 1),)),
                 Goal(0, (("most", -5), ("rest", 3, 0))), Goal(0, (("least", 7), ("most", 6))))
        book = Book((0, 1, 0), (), goals)
        self.assertTrue(goal_counts(book, 0) == just(1) | every(4, 2) & at_least(0) | every(3, 0) & at_most(-5))
        self.assertTrue(goal_counts(book, 1) == ALL)
        self.assertTrue(goal_counts(book, 2) == none())
        self.assertTrue(goal_counts(BOOK, 1) == none())

    def test_many_books(self):
        chance = rng(361)
        for book in [some_book(chance) for _ in range(60)] + [great_book(chance)]:
            near = list(range(-30, 31)) + [FAR + i for i in range(12)] + [-FAR - i for i in range(12)]
            for index, move in enumerate(book.moves):
                told = open_counts(book, index)
                self.assertEqual([n in told for n in near], [holds_plainly(move.conditions, n) for n in near])
            for place in range(book.places):
                told = goal_counts(book, place)
                self.assertEqual([n in told for n in near], [goal_plainly(book, place, n) for n in near])

    def test_errors(self):
        for index in NO_INTEGERS + (-1, 5, FAR):
            raises(self, NoMove(index), open_counts, BOOK, index)
        for place in NO_PLACES:
            raises(self, BadPlace(place), goal_counts, BOOK, place)


class Answers(unittest.TestCase):
    def answers(self, player, place, n, wanted):
        for rows in (player, list(player), [list(row) for row in player], tuple([list(row) for row in player])):
            self.assertEqual(answer(BOOK, rows, place, n), wanted)
            move = BOOK.moves[wanted]
            self.assertEqual(next_state(BOOK, rows, place, n), (move.target, n + move.shift))

    def test_without_a_fitting_row_the_least_open_move(self):
        self.answers((), 0, 5, 0)
        self.answers((), 0, -5, 3)
        self.answers((), 1, FAR, 1)
        self.answers((), 1, -FAR, 4)
        self.answers(((1, ALL, 4),), 0, 5, 0)
        self.answers(((0, at_least(6), 2),), 0, 5, 0)
        self.answers(((0, ALL, 2),), 0, 1, 0)
        self.answers(((0, at_least(6), 2), (0, none(), 3), (1, ALL, 4)), 0, 5, 0)

    def test_the_first_fitting_row_counts(self):
        player = ((1, every(2, 0), 4), (0, just(5), 3), (0, at_most(9), 2), (0, ALL, 3), (0, ALL, 2), (1, ALL, 1))
        for n, wanted in ((5, 3), (6, 2), (9, 2), (10, 3), (2, 2), (1, 3), (FAR, 3), (-1, 3)):
            self.answers(player, 0, n, wanted)
        self.answers(player, 1, 4, 4)
        self.answers(player, 1, 6, 1)
        self.answers(player, 1, 7, 1)
        self.answers(player, 1, -2, 4)

    def test_where_the_play_has_ended(self):
        player = ((0, ALL, 3), (1, ALL, 1), (1, ALL, 4))
        stuck = Book((0, 1), (Move(0, (("least", 1),), -1, 0),), ())
        for rows in ((), player):
            for call in (answer, next_state):
                self.assertIsNone(call(BOOK, rows, 0, 0))
                self.assertIsNone(call(BOOK, rows, 1, 0))
                self.assertIsNone(call(stuck, (), 0, 0))
                self.assertIsNone(call(stuck, (), 1, FAR))

    def test_many_books(self):
        chance = rng(362)
        for _ in range(120):
            book = some_book(chance)
            player = some_player(chance, book, chance.randint(0, 6))
            for place in range(book.places):
                for n in list(range(-9, 10)) + [FAR, -FAR]:
                    behind = next_plainly(book, player, place, n)
                    self.assertEqual(next_state(book, player, place, n), None if isinstance(behind, str) else behind)
                    index = answer(book, player, place, n)
                    if isinstance(behind, str):
                        self.assertIsNone(index)
                        continue
                    self.assertIn(index, open_plainly(book, place, n))
                    self.assertEqual((book.moves[index].target, n + book.moves[index].shift), behind)
                    fitting = [i for at, counts, i in player if at == place and n in counts and i in open_plainly(book, place, n)]
                    self.assertEqual(index, (fitting + open_plainly(book, place, n))[0])

    def test_errors_in_their_order(self):
        good = (0, ALL, 2)
        bad = [None, 5, "abc", (), (0, ALL), (0, ALL, 2, 0), {0: 1}, {0, 1, 2}, iter(good), ALL, BOOK]
        bad += [(place, ALL, 2) for place in NO_PLACES] + [[place, ALL, 2] for place in NO_PLACES]
        bad += [(0, ALL, index) for index in NO_INTEGERS + (-1, 5, FAR, 1, 4)] + [(1, ALL, 0)]
        bad += [(0, counts, 2) for counts in (None, True, 0, (0,), [0], "all", range(3), {1: 2}, Rounds)]
        for call, last in ((answer, ()), (next_state, ()), (course, ()), (state_behind, (None,))):
            for player in NO_ROWS:
                raises(self, BadRow(player), call, BOOK, player, None, None, *last)
            for item in bad:
                raises(self, BadRow(item), call, BOOK, (item,), None, None, *last)
                raises(self, BadRow(item), call, BOOK, [good, item, None], None, None, *last)
            for place in NO_PLACES:
                raises(self, BadPlace(place), call, BOOK, (good,), place, None, *last)
            for n in NO_INTEGERS:
                raises(self, BadNumber("count", n), call, BOOK, [list(good)], 0, n, *last)
        for turns in NO_INTEGERS + (-1, -FAR):
            raises(self, BadNumber("turns", turns), state_behind, BOOK, (good,), 0, 5, turns)

    def test_players_that_are_handed_stay(self):
        player = [[0, listed([5]), 2], [1, ALL, 4]]
        course(BOOK, player, 0, FAR)
        answer(BOOK, player, 0, 5)
        self.assertEqual([row[0::2] for row in player], [[0, 2], [1, 4]])


if __name__ == "__main__":
    unittest.main()
