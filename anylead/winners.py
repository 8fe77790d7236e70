"""Who can force the wish, for all counts."""

from anylead.boards import Board, board_of
from anylead.checks import need_place, need_state, need_whole, tupled
from anylead.leveling import Solved, set_at
from anylead.rounds import Rounds
from anylead.tabling import places_of


class Winners:
    """The board places from which FIRST can force the wish, a set for each level.

    middle has those of the middle levels; above those of the levels above, the first one next to the middle,
    ahead of the first set that comes again: the one with the index above_turn; below likewise."""

    def __init__(self, board, middle, above, above_turn, below, below_turn):
        self.board = tupled(board)
        self.middle = tupled(middle)
        self.above = tupled(above)
        self.above_turn = tupled(above_turn)
        self.below = tupled(below)
        self.below_turn = tupled(below_turn)

    def __eq__(self, other):
        return (isinstance(other, Winners) and _have_equal_books(self.board, other.board)
                and self.middle == other.middle and self.above == other.above and self.above_turn == other.above_turn
                and self.below == other.below and self.below_turn == other.below_turn)

    def on(self, level):
        """The set of a level."""
        need_whole("level", level)
        return set_at(self.board, self, level)

    def wins(self, place, n):
        """Whether FIRST can force the wish from the state."""
        number, level = self.board.at(place, n)
        return number in set_at(self.board, self, level)

    def at(self, place):
        """All counts at which FIRST can force the wish from the place."""
        need_place(self.board.book, place)
        first = self.board.first - self.below_turn
        last = self.board.last + self.above_turn
        below = _truths(self, place, first - len(self.below) + self.below_turn, first - 1)
        above = _truths(self, place, last + 1, last + len(self.above) - self.above_turn)
        return Rounds(first * self.board.width, below, _truths(self, place, first, last), above)


def _have_equal_books(board, other):
    if isinstance(board, Board) and isinstance(other, Board):
        return board.book == other.book
    return board == other


def _truths(one, place, low, high):
    """Whether FIRST wins from the place, for each count of the levels from low to high."""
    width = one.board.width
    numbers = range(place * width, place * width + width)
    truths = []
    for level in range(low, high + 1):
        places = set_at(one.board, one, level)
        truths.extend([number in places for number in numbers])
    return truths


def winners(book):
    """The Winners of a book."""
    board = board_of(book)
    return solved_winners(board, Solved(board))


def solved_winners(board, solved):
    """The Winners with the sets that have been found for the levels of a board."""
    rows = [[places_of(bits, board.places) for bits in sets]
            for sets in (solved.middle, solved.above_sets, solved.below_sets)]
    return Winners(board, rows[0], rows[1], solved.above_turn, rows[2], solved.below_turn)


def winners_at(book, place):
    """All counts at which FIRST can force the wish from the place."""
    need_place(book, place)
    return winners(book).at(place)


def wins(book, place, n):
    """Whether FIRST can force the wish from the state."""
    need_state(book, place, n)
    return winners(book).wins(place, n)
