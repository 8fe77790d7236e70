"""[26], [27], [28]: boards by levels."""

import math
import unittest

from anylead.boards import Board, Spot, board_of
from anylead.books import Book, Goal, Move
from anylead.errors import BadNumber, BadPlace, TooMany
from helpers import FAR, NO_INTEGERS, goal_plainly, great_book, open_plainly, raises, rng, some_book

EXAMPLE = Book((0, 1), (Move(0, (("least", 3),), -2, 1), Move(1, (("rest", 3, 0),), 4, 0)), (Goal(1, (("is", 0),)),))
PARTS = ("side", "is_goal", "level", "down", "up", "moves")


def parts_of(spot):
    return tuple(getattr(spot, name) for name in PARTS)


def spot_plainly(book, width, place, n):
    """The attributes of a Spot, read off the book as [27] tells."""
    moves = []
    for index in open_plainly(book, place, n):
        move = book.moves[index]
        behind = n + move.shift
        moves.append((index, math.floor(behind / width) - math.floor(n / width), move.target * width + behind % width))
    rows = [tuple(sorted({target for _, step, target in moves if step == wanted})) for wanted in (0, -1, 1)]
    return (book.sides[place], goal_plainly(book, place, n), *rows, tuple(moves))


def width_plainly(book):
    rules = book.moves + book.goals
    step = math.lcm(*[row[1] for rule in rules for row in rule.conditions if row[0] == "rest"])
    return next(m for m in range(step, 10 ** 6, step) if m >= max([1] + [abs(move.shift) for move in book.moves]))


def bound_plainly(book):
    rules = book.moves + book.goals
    return max([0] + [abs(row[1]) for rule in rules for row in rule.conditions if row[0] != "rest"])


def some_books():
    chance = rng(261)
    return [some_book(chance) for _ in range(60)] + [great_book(chance)]


class Sizes(unittest.TestCase):
    def sizes(self, moves, goals, width, first, last):
        board = board_of(Book((0, 1), moves, goals))
        self.assertEqual((board.width, board.first, board.last), (width, first, last))
        self.assertEqual((board.places, len(board.middle)), (2 * width, last - first + 1))

    def test_width_and_middle_levels(self):
        self.sizes((), (), 1, 0, 0)
        self.sizes((Move(0, (), 0, 1),), (), 1, 0, 0)
        self.sizes((Move(0, (), 3, 1),), (), 3, 0, 0)
        self.sizes((Move(0, (), -4, 1),), (), 4, 0, 0)
        self.sizes((Move(0, (("rest", 3, 1),), -4, 1),), (), 6, 0, 0)
        self.sizes((Move(0, (("rest", 3, 1),), 3, 1),), (), 3, 0, 0)
        self.sizes((Move(0, (("rest", 2, 1),), 1, 1),), (Goal(0, (("rest", 3, 1),)),), 6, 0, 0)
        self.sizes((Move(0, (("rest", 4, 1),), 1, 1), Move(0, (("rest", 6, 1),), 1, 1)), (), 12, 0, 0)
        self.sizes((Move(0, (("least", 3),), 1, 1),), (), 1, -3, 3)
        self.sizes((Move(0, (("least", -3),), 2, 1),), (), 2, -2, 1)
        self.sizes((), (Goal(0, (("not", 4),)), Goal(1, (("most", -5),))), 1, -5, 5)
        self.sizes((Move(0, (), 4, 1),), (Goal(0, (("is", -12),)),), 4, -3, 3)
        self.sizes((Move(0, (), 4, 1),), (Goal(0, (("is", 11),)),), 4, -3, 2)

    def test_what_is_never_open_counts_too(self):
        never = (("is", 7), ("is", 8))
        self.sizes((Move(0, never, 3, 1),), (), 3, -3, 2)
        self.sizes((Move(0, (("is", 0), ("not", 0), ("rest", 5, 1)), 0, 1),), (), 5, 0, 0)
        self.sizes((), (Goal(0, never + (("rest", 4, 0),)),), 4, -2, 2)

    def test_many_books(self):
        for book in some_books():
            board = board_of(book)
            width, bound = width_plainly(book), bound_plainly(book)
            self.assertEqual((board.width, board.first, board.last, board.places),
                             (width, math.floor(-bound / width), bound // width, book.places * width))
            self.assertIs(board.book, book)

    def test_as_many_places_as_the_limit_allows(self):
        self.assertEqual(board_of(Book((0,), (Move(0, (("rest", 150, 7),), 4, 0),), ())).places, 150)
        self.assertEqual(board_of(Book((0,) * 150, (), ())).places, 150)
        self.assertEqual(board_of(Book((1,) * 50, (Move(3, (), 3, 4),), ())).places, 150)
        self.assertEqual(board_of(Book((0,), (Move(0, (("rest", 75, 0),), 76, 0),), ())).places, 150)

    def test_more_places_than_the_limit_allows(self):
        great = (("rest", 10 ** 60, 7),)
        for book in (Book((0,) * 151, (), ()), Book((0,), (), (Goal(0, great),)), Book((0,), (Move(0, great, 0, 0),), ()),
                     Book((0,), (Move(0, (("rest", 151, 7),), 4, 0),), ()), Book((1,) * 51, (Move(3, (), -3, 4),), ()),
                     Book((0,), (Move(0, (("rest", 76, 0),), 77, 0),), ()),
                     Book((0, 0), (Move(0, (("rest", 30, 7),), 4, 1), Move(0, (("rest", 4, 3), ("rest", 9, 1)), 4, 1)), ())):
            raises(self, TooMany("places", 150), board_of, book)


class Spots(unittest.TestCase):
    def test_each_spot_of_each_row(self):
        for book in some_books():
            board = board_of(book)
            rows = {level: board.middle[level - board.first] for level in range(board.first, board.last + 1)}
            rows.update({board.last + 1: board.above, board.last + 7: board.above, board.first - 1: board.below,
                         board.first - 5: board.below})
            for level, row in rows.items():
                self.assertEqual(len(row), board.places)
                for number, spot in enumerate(row):
                    place, rest = divmod(number, board.width)
                    wanted = spot_plainly(book, board.width, place, level * board.width + rest)
                    self.assertEqual(parts_of(spot), wanted)
                    self.assertEqual([type(part) for part in parts_of(spot)], [int, bool, tuple, tuple, tuple, tuple])
                    self.assertTrue(board.spot(number, level) == spot)

    def test_doubles_and_goals(self):
        moves = (Move(0, (), 1, 1), Move(0, (), 1, 1), Move(0, (("least", 1),), -1, 0), Move(0, (), 1, 0), Move(0, (), 0, 1))
        board = board_of(Book((0, 1), moves, (Goal(0, ()),)))
        self.assertEqual(parts_of(board.above[0]), (0, True, (1,), (0,), (0, 1), (
            (0, 1, 1), (1, 1, 1), (2, -1, 0), (3, 1, 0), (4, 0, 1))))
        self.assertEqual(parts_of(board.below[0]), (0, True, (1,), (), (0, 1), ((0, 1, 1), (1, 1, 1), (3, 1, 0), (4, 0, 1))))
        self.assertEqual(parts_of(board.above[1]), (1, False, (), (), (), ()))
        self.assertEqual((board.down_targets, board.up_targets), ((0,), (0, 1)))

    def test_targets(self):
        for book in some_books():
            board = board_of(book)
            self.assertEqual(board.down_targets, tuple(sorted({q for spot in board.above for q in spot.down})))
            self.assertEqual(board.up_targets, tuple(sorted({q for spot in board.below for q in spot.up})))

    def test_spots_far_out(self):
        for book in some_books()[::4]:
            board = board_of(book)
            for number in range(board.places):
                self.assertEqual(board.spot(number, FAR), board.above[number])
                self.assertEqual(board.spot(number, -FAR), board.below[number])
                self.assertEqual(board.spot(number, board.first), board.middle[0][number])

    def test_the_example(self):
        board = board_of(EXAMPLE)
        self.assertEqual((board.width, board.first, board.last), (6, -1, 0))
        self.assertEqual((board.at(0, 7), board.home(1, 1)), ((1, 1), (0, 7)))
        self.assertEqual(board.spot(1, 1), Spot(0, False, (), (11,), (), ((0, -1, 11),)))


class Places(unittest.TestCase):
    def test_at_and_home(self):
        for book in some_books()[::3]:
            board = board_of(book)
            for place in range(book.places):
                for n in (-13, -1, 0, 1, 12, FAR, -FAR, 10 ** 60 - 1, 1 - 10 ** 60):
                    number, level = board.at(place, n)
                    self.assertEqual((number, level), (place * board.width + n % board.width, n // board.width))
                    self.assertEqual(board.home(number, level), (place, n))
            for number in range(board.places):
                for level in (-FAR, -2, 0, 3, FAR):
                    place, n = board.home(number, level)
                    self.assertEqual(board.at(place, n), (number, level))
                    self.assertEqual((place, n), (number // board.width, level * board.width + number % board.width))

    def test_errors(self):
        board = board_of(EXAMPLE)
        for place in NO_INTEGERS + (-1, 12, 10 ** 60):
            raises(self, BadPlace(place), board.spot, place, None)
            raises(self, BadPlace(place), board.home, place, True)
        for place in NO_INTEGERS + (-1, 2, 10 ** 60):
            raises(self, BadPlace(place), board.at, place, None)
        for value in NO_INTEGERS:
            raises(self, BadNumber("level", value), board.spot, 11, value)
            raises(self, BadNumber("level", value), board.home, 11, value)
            raises(self, BadNumber("count", value), board.at, 1, value)


class Equal(unittest.TestCase):
    def test_spots(self):
        parts = (0, False, (1, 2), (3,), (), ((0, 0, 1), (1, 0, 2), (2, -1, 3)))
        spot = Spot(*parts)
        self.assertEqual(parts_of(spot), parts)
        self.assertTrue(spot == Spot(0, False, [1, 2], [3], [], [[0, 0, 1], (1, 0, 2), [2, -1, 3]]))
        self.assertFalse(spot != Spot(*parts))
        for at, value in enumerate((1, True, (1,), (), (4,), ((0, 0, 1),))):
            self.assertFalse(spot == Spot(*parts[:at], value, *parts[at + 1:]))
            self.assertTrue(spot != Spot(*parts[:at], value, *parts[at + 1:]))
        for other in (None, 0, parts, "spot", EXAMPLE):
            self.assertFalse(spot == other)

    def test_spots_keep_lists_as_tuples(self):
        spot = Spot(1, True, [1], [2], [3], [[0, 0, 1]])
        self.assertEqual(parts_of(spot), (1, True, (1,), (2,), (3,), ((0, 0, 1),)))

    def test_boards(self):
        board = board_of(EXAMPLE)
        parts = (EXAMPLE, 6, -1, 0, board.above, board.below, board.middle)
        self.assertTrue(board == board_of(EXAMPLE))
        self.assertTrue(board == Board(*parts))
        self.assertTrue(board == Board(Book((1,), (), ()), *parts[1:]))
        for at, value in ((1, 5), (2, -2), (3, 1), (4, board.below), (5, board.above), (6, board.middle[:1])):
            self.assertFalse(board == Board(*parts[:at], value, *parts[at + 1:]))
            self.assertTrue(board != Board(*parts[:at], value, *parts[at + 1:]))
        # The same targets, but a goal more in one of the rows.
        for at in (4, 5):
            row = list(parts[at])
            row[0] = Spot(row[0].side, True, *parts_of(row[0])[2:])
            self.assertFalse(board == Board(*parts[:at], row, *parts[at + 1:]))
        for other in (None, 0, parts, EXAMPLE, board.above):
            self.assertFalse(board == other)

    def test_boards_of_unlike_books_may_be_equal(self):
        one = Book((0,), (), (Goal(0, (("is", 1),)),))
        other = Book((0,), (), (Goal(0, (("is", 1), ("least", 1))),))
        self.assertFalse(one == other)
        self.assertTrue(board_of(one) == board_of(other))


if __name__ == "__main__":
    unittest.main()
