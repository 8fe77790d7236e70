"""[42] to [46]: who can force the wish, for all counts."""

import time
import unittest

from anylead.boards import board_of
from anylead.books import Book, Goal, Move, beside, lifted, mirrored, numbered
from anylead.bounded import Window
from anylead.errors import BadNumber, BadPlace, TooMany
from anylead.forcing import forces
from anylead.rounds import Rounds, at_least, at_most, every, just, none
from anylead.tables import flipped, forced
from anylead.winners import Winners, wins, winners, winners_at
from helpers import (FAR, NO_INTEGERS, error_of, goal_plainly, great_book, raises, rings_book, rng, some_small_books,
                     step_plainly, taking_book)

PARTS = ("board", "middle", "above", "above_turn", "below", "below_turn")
NO_PLACES = NO_INTEGERS + (-1, 2, FAR)


def parts_of(one):
    return tuple(getattr(one, name) for name in PARTS)


def row_plainly(board, level):
    if board.first <= level <= board.last:
        return board.middle[level - board.first]
    return board.above if level > board.last else board.below


class Sets(unittest.TestCase):
    def test_against_windows(self):
        decided = {True: 0, False: 0, None: 0}
        for book, board in some_small_books(431, 100):
            one = winners(book)
            low, high = [Window(book, -150, 150, beyond) for beyond in (False, True)]
            for place in range(book.places):
                counts = one.at(place)
                for n in range(-40, 41):
                    least, most = low.turns(place, n) is not None, high.turns(place, n) is not None
                    told = one.wins(place, n)
                    self.assertTrue(least <= told <= most)
                    self.assertIs(n in counts, told)
                    decided[told if least == most else None] += 1
        self.assertGreater(min(decided[True], decided[False]), 4000, decided)

    def test_what_plain_turns_force(self):
        for book, _ in some_small_books(432, 30):
            one = winners(book)
            for place in range(book.places):
                for n in (-FAR, -9, -2, 0, 1, 5, 12, FAR):
                    if forces(book, 9, place, n):
                        self.assertIs(one.wins(place, n), True)

    def test_equations_at_all_levels(self):
        for book, board in some_small_books(433, 100) + [(rings_book(), board_of(rings_book()))]:
            one = winners(book)
            for level in range(board.first - len(one.below) - 4, board.last + len(one.above) + 5):
                sets = [one.on(level + by) for by in (-1, 0, 1)]
                self.assertEqual(set(sets[1]), step_plainly(row_plainly(board, level), *sets))
                if level > board.last:
                    self.assertEqual(sets[1], forced(board.above, sets[0]))
                if level < board.first:
                    self.assertEqual(sets[1], forced(flipped(board.below), sets[2]))

    def test_the_least_sets_of_the_middle(self):
        for book, board in some_small_books(434, 60):
            one = winners(book)
            sets = [()] * len(board.middle)
            while True:
                around = [forced(flipped(board.below), sets[0])] + sets + [forced(board.above, sets[-1])]
                grown = [tuple(sorted(step_plainly(row, *around[at:at + 3]))) for at, row in enumerate(board.middle)]
                if grown == sets:
                    break
                sets = grown
            self.assertEqual(one.middle, tuple(sets))

    def test_where_they_come_round(self):
        turns = set()
        for book, board in some_small_books(435, 120) + [(rings_book(), board_of(rings_book()))]:
            one = winners(book)
            self.assertTrue(one.board == board and one.board.book is book)
            self.assertEqual(len(one.middle), board.last - board.first + 1)
            for sets, turn, ways in ((one.above, one.above_turn, (board.above, one.middle[-1])),
                                     (one.below, one.below_turn, (flipped(board.below), one.middle[0]))):
                self.assertTrue(type(sets) is tuple and len(sets) >= 1 and all(type(places) is tuple for places in sets))
                self.assertEqual(len(set(sets)), len(sets))
                row, places = ways
                for found in sets:
                    places = forced(row, places)
                    self.assertEqual(places, found)
                self.assertEqual(forced(row, places), sets[turn])
                turns.add((turn > 0, len(sets) - turn))
        self.assertLessEqual({(False, 1), (True, 1), (False, 2), (False, 30)}, turns)

    def test_on(self):
        for book in (rings_book(), taking_book((1, 3, 4)), some_small_books(436, 1)[0][0]):
            one = winners(book)
            board = one.board
            for sets, turn, level, way in ((one.above, one.above_turn, board.last, 1), (one.below, one.below_turn, board.first, -1)):
                row = list(sets) + [sets[turn:][at % (len(sets) - turn)] for at in range(90)]
                self.assertEqual([one.on(level + way * (at + 1)) for at in range(len(row))], row)
                far = FAR * (len(sets) - turn)
                for at in range(turn, len(row)):
                    self.assertEqual(one.on(level + way * (at + 1 + far)), row[at])
            for at, places in enumerate(one.middle):
                self.assertEqual(one.on(board.first + at), places)
            for level in NO_INTEGERS:
                raises(self, BadNumber("level", level), one.on, level)


class Games(unittest.TestCase):
    def test_games_of_taking(self):
        for takes, step, lost in (((1,), 2, (0,)), ((1, 2), 3, (0,)), ((1, 2, 3), 4, (0,)), ((1, 3, 4), 7, (0, 2)), ((2, 3), 5, (0, 1))):
            book = taking_book(takes)
            losing = none()
            for rest in lost:
                losing = losing | every(step, rest)
            self.assertTrue(winners_at(book, 0) == at_least(0) - losing)
            self.assertTrue(winners_at(book, 1) == losing & at_least(0) | at_most(-1))
            for n in list(range(-5, 30)) + [FAR + i for i in range(9)]:
                self.assertIs(wins(book, 0, n), n >= 0 and n % step not in lost)
                self.assertIs(wins(book, 1, n), n < 0 or n % step in lost)
            self.assertIs(wins(book, 1, -FAR), True)

    def test_rings_far_out(self):
        book = rings_book()
        for place, (first, step) in enumerate([(0, 2), (1, 2), (0, 3), (1, 3), (2, 3), (0, 5), (1, 5), (2, 5), (3, 5), (4, 5)]):
            self.assertTrue(winners_at(book, place) == every(step, first) & at_least(0))
        self.assertEqual([len(winners(book).above), winners(book).above_turn], [30, 0])

    def test_goals_and_none(self):
        nothing = Book((0, 1), (Move(0, (), 1, 1), Move(1, (), -2, 0)), ())
        self.assertTrue(winners_at(nothing, 0) == none() and winners_at(nothing, 1) == none())
        far = Book((0,), (Move(0, (), 1, 0),), (Goal(0, (("is", 12),)), Goal(0, (("is", -12),))))
        self.assertTrue(winners_at(far, 0) == at_most(12))
        both = Book((1, 0), (Move(0, (), 1, 1), Move(0, (), -1, 1), Move(1, (), 3, 1), Move(1, (), -3, 1)), (Goal(1, (("is", 6),)),))
        self.assertTrue(winners_at(both, 1) == every(3, 0) and winners_at(both, 0) == none())

    def test_near_at_borders_and_far(self):
        for book, board in some_small_books(437, 50):
            one = winners(book)
            borders = [board.first * board.width, (board.last + 1) * board.width]
            counts = [n + by for n in borders for by in range(-board.width - 1, board.width + 2)]
            counts += [FAR + by for by in range(13)] + [-FAR - by for by in range(13)]
            for place in range(book.places):
                rounds = winners_at(book, place)
                self.assertTrue(rounds == one.at(place))
                self.assertIs(type(rounds), Rounds)
                for n in counts:
                    number, level = board.at(place, n)
                    self.assertIs(one.wins(place, n), number in one.on(level))
                    self.assertIs(n in rounds, number in one.on(level))
                for n in counts[::9]:
                    self.assertIs(wins(book, place, n), n in rounds)

    def test_goals_are_won(self):
        for book, _ in some_small_books(438, 30):
            for place in range(book.places):
                for n in list(range(-9, 10)) + [FAR, -FAR]:
                    if goal_plainly(book, place, n):
                        self.assertIs(wins(book, place, n), True)


class Made(unittest.TestCase):
    def test_mirrored_and_lifted(self):
        for book, board in some_small_books(451, 40):
            for place in range(book.places):
                rounds = winners_at(book, place)
                self.assertTrue(winners_at(mirrored(book), place) == -rounds)
                for by in (1, -3, 7):
                    self.assertTrue(winners_at(lifted(book, by), place) == rounds.moved(by))

    def test_beside_and_numbered(self):
        chance = rng(452)
        books = [book for book, _ in some_small_books(453, 30, 12, 3)]
        for one, other in zip(books, books[1:]):
            both = beside(one, other)
            for place in range(both.places):
                wanted = winners_at(one, place) if place < one.places else winners_at(other, place - one.places)
                self.assertTrue(winners_at(both, place) == wanted)
            order = list(range(one.places))
            chance.shuffle(order)
            for place, number in enumerate(order):
                self.assertTrue(winners_at(numbered(one, order), number) == winners_at(one, place))


class ByHand(unittest.TestCase):
    board = board_of(Book((0, 1), (Move(0, (("least", 1),), -1, 1),), ()))

    def test_what_is_given_is_kept(self):
        one = Winners(self.board, [[0], (1, 0), [[2]]], [[1], [5, 5]], 1, ([],), 0)
        self.assertIs(one.board, self.board)
        self.assertEqual(parts_of(one)[1:], (((0,), (1, 0), ((2,),)), ((1,), (5, 5)), 1, ((),), 0))
        thing = object()
        self.assertEqual(parts_of(Winners(None, thing, "above", [1], {}, True)), (None, thing, "above", (1,), {}, True))

    def test_on_tells_the_sets_as_they_are_kept(self):
        one = Winners(self.board, [[7], [3, 1, 1], []], [(9,), [5, 5], (6,)], 1, [[4, 2]], 0)
        self.assertEqual((self.board.first, self.board.last), (-1, 1))
        self.assertEqual([one.on(level) for level in range(-4, 10)], [
            (4, 2), (4, 2), (4, 2), (7,), (3, 1, 1), (), (9,), (5, 5), (6,), (5, 5), (6,), (5, 5), (6,), (5, 5)])
        self.assertEqual(one.on(2 * FAR + 1), (5, 5))

    def test_at_and_wins_by_hand(self):
        one = Winners(self.board, [[0], [1], [0, 1]], [[], [0], [1]], 1, [[1], [0]], 0)
        self.assertEqual([n for n in range(-9, 12) if one.wins(0, n)], [-9, -7, -5, -3, -1, 1, 3, 5, 7, 9, 11])
        for place in (0, 1):
            rounds = one.at(place)
            for n in list(range(-30, 31)) + [FAR, FAR + 1, -FAR, -FAR - 1]:
                self.assertIs(one.wins(place, n), place in one.on(n))
                self.assertIs(n in rounds, place in one.on(n))

    def test_at_and_wins_with_turns(self):
        chance = rng(439)
        for width, book in ((1, Book((0, 1), (), ())), (3, Book((0, 1), (Move(0, (), 3, 1),), ()))):
            board = board_of(book)
            for _ in range(60):
                rows = [[sorted(chance.sample(range(2 * width), chance.randint(0, 2))) for _ in range(many)]
                        for many in (1, chance.randint(1, 6), chance.randint(1, 6))]
                one = Winners(board, rows[0], rows[1], chance.randrange(len(rows[1])), rows[2], chance.randrange(len(rows[2])))
                for place in (0, 1):
                    rounds = one.at(place)
                    for n in list(range(-40, 41)) + [FAR, -FAR]:
                        self.assertIs(n in rounds, place * width + n % width in one.on(n // width))
                        self.assertIs(one.wins(place, n), n in rounds)

    def test_equal(self):
        book = rings_book()
        one = winners(book)
        self.assertTrue(one == winners(rings_book()))
        self.assertFalse(one != winners(rings_book()))
        parts = parts_of(one)
        self.assertTrue(one == Winners(*parts))
        for at, value in ((0, board_of(Book(book.sides, book.moves, book.goals[:2]))), (0, None), (1, parts[1] + ((),)), (2, parts[2][:-1]),
                          (3, 1), (4, parts[4] + parts[4]), (5, 1)):
            self.assertFalse(one == Winners(*parts[:at], value, *parts[at + 1:]))
            self.assertTrue(one != Winners(*parts[:at], value, *parts[at + 1:]))
        for other in (None, 0, parts, book, one.board, "winners"):
            self.assertFalse(one == other)
        self.assertTrue(Winners(None, 1, 2, 3, 4, 5) == Winners(None, 1, 2, 3, 4, 5))
        self.assertFalse(Winners(None, 1, 2, 3, 4, 5) == Winners(self.board, 1, 2, 3, 4, 5))

    def test_boards_of_unlike_books(self):
        books = [Book((0,), (), (Goal(0, conditions),)) for conditions in ((("is", 1),), (("is", 1), ("least", 1)))]
        one, other = winners(books[0]), winners(books[1])
        self.assertTrue(one.board == other.board and parts_of(one)[1:] == parts_of(other)[1:])
        self.assertFalse(one == other)


class Errors(unittest.TestCase):
    great = Book((0, 1), (Move(0, (("rest", 76, 0),), 1, 1),), ())

    def test_too_many_places(self):
        raises(self, TooMany("places", 150), winners, self.great)
        raises(self, TooMany("places", 150), winners_at, self.great, 1)
        raises(self, TooMany("places", 150), wins, self.great, 1, FAR)
        self.assertIsNone(error_of(winners, Book((0, 1), (Move(0, (("rest", 75, 0),), 1, 1),), ())))

    def test_places_and_counts_go_ahead(self):
        book = taking_book((1,))
        one = winners(book)
        for place in NO_PLACES:
            for each in (book, self.great):
                raises(self, BadPlace(place), winners_at, each, place)
                raises(self, BadPlace(place), wins, each, place, None)
            raises(self, BadPlace(place), one.wins, place, None)
            raises(self, BadPlace(place), one.at, place)
        for n in NO_INTEGERS:
            raises(self, BadNumber("count", n), wins, book, 1, n)
            raises(self, BadNumber("count", n), wins, self.great, 1, n)
            raises(self, BadNumber("count", n), one.wins, 1, n)


class Sizes(unittest.TestCase):
    def test_great_books(self):
        chance = rng(461)
        begin = time.process_time()
        many = 0
        while many < 25:
            book = sized_book(chance)
            board = board_of(book) if book.places * 12 <= 150 else None
            if board is None or board.places < 60 or max(len(board.down_targets), len(board.up_targets)) > 10:
                continue
            many += 1
            one = winners(book)
            for place in range(book.places):
                one.at(place)
            for level in range(board.first - 3, board.last + 4):
                self.assertEqual(set(one.on(level)), step_plainly(row_plainly(board, level), *[one.on(level + by) for by in (-1, 0, 1)]))
        self.assertLess(time.process_time() - begin, 60)

    def test_all_levels_of_a_narrow_board(self):
        book = great_book(rng(462))
        narrow = Book(book.sides, [Move(move.place, [row for row in move.conditions if row[0] != "rest"], (move.shift > 0) - (move.shift < 0),
                                        move.target) for move in book.moves[:24]], (Goal(3, (("is", 12),)),))
        board = board_of(narrow)
        self.assertEqual((board.width, board.first, board.last), (1, -12, 12))
        begin = time.process_time()
        one = winners(narrow)
        self.assertLess(time.process_time() - begin, 20)
        self.assertEqual(len(one.middle), 25)


def sized_book(chance):
    places = chance.randint(6, 12)
    moves = [Move(chance.randrange(places), chance.choice([(), (("rest", 4, chance.randrange(4)),), (("rest", 6, chance.randrange(6)),)]),
                  chance.choice([-1, 0, 0, 0, 1]), chance.randrange(places)) for _ in range(chance.randint(places, 40))]
    goals = [Goal(chance.randrange(places), (("is", chance.randint(-12, 12)),)) for _ in range(3)]
    return Book([chance.randint(0, 1) for _ in range(places)], moves, goals)


if __name__ == "__main__":
    unittest.main()
