"""Boards: the counts of a book cut into levels of one width, far out all alike."""

from anylead.books import all_hold
from anylead.checks import is_index, need_state, need_whole, tupled
from anylead.errors import BadPlace, TooMany
from anylead.extents import condition_rows, limits_of, rest_step
from anylead.solving import by_place, indices_by_place, some_holds

MOST_PLACES = 150


class Spot:
    """A board place at a level: who moves, whether it is a goal, and where its open moves lead."""

    def __init__(self, side, is_goal, level, down, up, moves):
        self.side = side
        self.is_goal = is_goal
        self.level = tupled(level)
        self.down = tupled(down)
        self.up = tupled(up)
        self.moves = tupled(moves)

    def __eq__(self, other):
        return (isinstance(other, Spot) and self.side == other.side and self.is_goal == other.is_goal
                and self.level == other.level and self.down == other.down and self.up == other.up
                and self.moves == other.moves)


class Board:
    """The Spots of a book: of each middle level, and as they are at each level above and below."""

    def __init__(self, book, width, first, last, above, below, middle):
        self.book = book
        self.width = width
        self.first = first
        self.last = last
        self.above = tupled(above)
        self.below = tupled(below)
        self.middle = tupled(middle)
        self.places = len(self.above)
        self.down_targets = ascending([target for spot in self.above for target in spot.down])
        self.up_targets = ascending([target for spot in self.below for target in spot.up])

    def __eq__(self, other):
        return (isinstance(other, Board) and self.width == other.width and self.first == other.first
                and self.last == other.last and self.above == other.above and self.below == other.below
                and self.middle == other.middle and self.places == other.places
                and self.down_targets == other.down_targets and self.up_targets == other.up_targets)

    def spot(self, place, level):
        """The Spot of a board place at any level."""
        _need_board_place(self, place, level)
        return row_at(self, level)[place]

    def at(self, place, n):
        """The board place and the level of a state of the book."""
        need_state(self.book, place, n)
        return (place * self.width + n % self.width, n // self.width)

    def home(self, place, level):
        """The state of the book that a board place at a level is."""
        _need_board_place(self, place, level)
        return (place // self.width, level * self.width + place % self.width)


def _need_board_place(board, place, level):
    if not is_index(place, board.places):
        raise BadPlace(place)
    need_whole("level", level)


def row_at(board, level):
    """The row of the Spots of all board places at a level."""
    if level > board.last:
        return board.above
    if level < board.first:
        return board.below
    return board.middle[level - board.first]


def ascending(numbers):
    """The ascending tuple of some integers, without doubles."""
    return tuple(sorted(set(numbers)))


def board_of(book):
    """The board of a book."""
    rows = condition_rows(book)
    step = rest_step(rows)
    farthest = max([1] + [abs(move.shift) for move in book.moves])
    width = step * ((farthest + step - 1) // step)
    if book.places * width > MOST_PLACES:
        raise TooMany("places", MOST_PLACES)
    bound = max([0] + [abs(k) for k in limits_of(rows)])
    first = (-bound) // width
    last = bound // width
    moves = indices_by_place(book.moves, book.places)
    goals = by_place(book.goals, book.places)
    levels = [[_spot_of(book, width, moves[place], goals[place], place, level * width + rest)
               for place in range(book.places) for rest in range(width)] for level in range(first - 1, last + 2)]
    return Board(book, width, first, last, levels[-1], levels[0], levels[1:-1])


def _spot_of(book, width, moves, goals, place, n):
    """The Spot of a state; moves has the indices of the moves of its place, goals its goals."""
    ways = []
    for index in moves:
        move = book.moves[index]
        if all_hold(move.conditions, n):
            behind = n + move.shift
            ways.append((index, behind // width - n // width, move.target * width + behind % width))
    return Spot(book.sides[place], some_holds(goals, n), _targets(ways, 0), _targets(ways, -1), _targets(ways, 1), ways)


def _targets(ways, wanted):
    return ascending([target for _, step, target in ways if step == wanted])
