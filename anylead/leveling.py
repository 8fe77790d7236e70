"""Sets of board places at all levels: those that FIRST wins, and those that somebody tells."""

from anylead.boards import row_at
from anylead.checks import is_index, is_whole
from anylead.tables import flipped
from anylead.tabling import Lines, Table, bits_of


class Solved:
    """What FIRST can force at all levels of a board, sets being integers as in tabling.

    middle_rounds has the rows of the sets of the middle levels, as they grow round by round."""

    def __init__(self, board):
        self.above = Table(board.above)
        self.below = Table(flipped(board.below))
        self.middle_rounds = _middle_rounds(board, self.above, self.below)
        self.middle = self.middle_rounds[-1]
        self.above_sets, self.above_turn = outward(self.above, self.middle[-1])
        self.below_sets, self.below_turn = outward(self.below, self.middle[0])


def _middle_rounds(board, above, below):
    rows = [Lines(row) for row in board.middle]
    rounds = [[0] * len(rows)]
    while True:
        last = rounds[-1]
        sets = [below.forced(last[0])] + last + [above.forced(last[-1])]
        grown = [row.step(sets[at], sets[at + 1], sets[at + 2]) for at, row in enumerate(rows)]
        if grown == last:
            return rounds
        rounds.append(grown)


def outward(table, places):
    """The sets of the levels outside of one with this set, till one comes again, and the index of that one.

    table.forced tells the set of the level outside of one with a set."""
    indices = {}
    places = table.forced(places)
    while places not in indices:
        indices[places] = len(indices)
        places = table.forced(places)
    return list(indices), indices[places]


def set_at(board, told, level):
    """The set of a level that is told by middle, above, above_turn, below and below_turn of a value."""
    if level > board.last:
        return _in_turn(told.above, told.above_turn, level - board.last - 1)
    if level < board.first:
        return _in_turn(told.below, told.below_turn, board.first - level - 1)
    return told.middle[level - board.first]


def _in_turn(sets, turn, index):
    if index < len(sets):
        return sets[index]
    return sets[turn + (index - turn) % (len(sets) - turn)]


def is_ascending(value):
    """Whether the value is a tuple of integers, each greater than the one ahead."""
    if not isinstance(value, tuple) or not all([is_whole(item) for item in value]):
        return False
    return all([value[at] < value[at + 1] for at in range(len(value) - 1)])


def tells_sets(board, told):
    """Whether middle, above, above_turn, below and below_turn of a value tell a set for each level."""
    if not isinstance(told.middle, tuple) or len(told.middle) != board.last - board.first + 1:
        return False
    for sets, turn in ((told.above, told.above_turn), (told.below, told.below_turn)):
        if not isinstance(sets, tuple) or not is_index(turn, len(sets)) or not _are_sets(board, sets):
            return False
    return _are_sets(board, told.middle)


def _are_sets(board, values):
    for value in values:
        if not is_ascending(value) or (value and not (0 <= value[0] and value[-1] < board.places)):
            return False
    return True


def told_steps(board, told):
    """The pairs of the step of the told sets and the told set, of as many levels as show all."""
    low = board.first - len(told.below) - 1
    high = board.last + len(told.above) + 1
    above = Lines(board.above)
    below = Lines(board.below)
    sets = [bits_of(set_at(board, told, level), board.places) for level in range(low - 1, high + 2)]
    pairs = []
    for level in range(low, high + 1):
        lines = above if level > board.last else below
        if board.first <= level <= board.last:
            lines = Lines(row_at(board, level))
        at = level - low + 1
        pairs.append((lines.step(sets[at - 1], sets[at], sets[at + 1]), sets[at]))
    return pairs


def leads_nowhere_else(board, told):
    """Whether at each level the step has no place outside of the told set."""
    return all([found | own == own for found, own in told_steps(board, told)])
