"""Sets of counts that hang on the told sets of a level and of both next to it."""

from anylead.boards import row_at
from anylead.leveling import set_at
from anylead.rounds import Rounds


class Span:
    """As many levels as show all that told sets mean, told being a value with the sets of a Winners.

    levels are those from low to high, down levels below them and up levels above, which come again. won has, for
    these levels and those next to them, whether each board place is in the told set."""

    def __init__(self, board, told):
        self.board = board
        # One level further out than the told sets come again, both levels next to it do, too.
        low = board.first - told.below_turn - 1
        high = board.last + told.above_turn + 1
        self.down = len(told.below) - told.below_turn
        self.up = len(told.above) - told.above_turn
        self.low = low
        self.levels = list(range(low - self.down, high + self.up + 1))
        self.won = {level: _truths(board, told, level) for level in range(self.levels[0] - 1, self.levels[-1] + 2)}

    def has_wish(self, side, number, level):
        """Whether a side has the wish at a board place at a level."""
        return self.won[level][number] == (side == 0)

    def spots(self, place):
        """For each level a list with a pair (number, spot) for each board place of the place."""
        width = self.board.width
        numbers = list(range(place * width, place * width + width))
        return [[(number, row_at(self.board, level)[number]) for number in numbers] for level in self.levels]

    def gathered(self, rows):
        """The Rounds of a place, rows having for each level a truth for each of its counts."""
        truths = [truth for row in rows for truth in row]
        width = self.board.width
        down = self.down * width
        up = self.up * width
        return Rounds(self.low * width, truths[:down], truths[down:-up], truths[-up:])


def _truths(board, told, level):
    truths = [False] * board.places
    for place in set_at(board, told, level):
        truths[place] = True
    return truths
