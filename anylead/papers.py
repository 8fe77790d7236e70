"""Papers that tell who can force the wish, and their judge."""

from anylead.boards import Board, board_of
from anylead.checks import is_whole, tupled
from anylead.errors import Unlike
from anylead.leveling import Solved, is_ascending, leads_nowhere_else, set_at, tells_sets, told_steps
from anylead.tables import flipped
from anylead.tabling import numbers_of, places_of
from anylead.winners import Winners


class Ranks:
    """Why FIRST forces a goal or a descent into a set: a number for each board place, or None."""

    def __init__(self, places, numbers):
        self.places = tupled(places)
        self.numbers = tupled(numbers)


class Paper:
    """The sets of all levels as those of a Winners, and numbers that tell why FIRST can force the wish there."""

    def __init__(self, middle, above, above_turn, below, below_turn, middle_numbers, above_ranks, below_ranks):
        self.middle = tupled(middle)
        self.above = tupled(above)
        self.above_turn = tupled(above_turn)
        self.below = tupled(below)
        self.below_turn = tupled(below_turn)
        self.middle_numbers = tupled(middle_numbers)
        self.above_ranks = tupled(above_ranks)
        self.below_ranks = tupled(below_ranks)


def paper(book):
    """A right Paper of a book."""
    board = board_of(book)
    solved = Solved(board)
    many = board.places
    tops = [sets[-1] for sets in solved.middle_rounds]
    bottoms = [sets[0] for sets in solved.middle_rounds]
    rows = [[places_of(bits, many) for bits in sets]
            for sets in (solved.middle, solved.above_sets, solved.below_sets)]
    numbers = [numbers_of([sets[at] for sets in solved.middle_rounds], many) for at in range(len(board.middle))]
    above_ranks = _all_ranks(board.above, solved.above, tops + solved.above_sets)
    below_ranks = _all_ranks(flipped(board.below), solved.below, bottoms + solved.below_sets)
    return Paper(rows[0], rows[1], solved.above_turn, rows[2], solved.below_turn, numbers, above_ranks, below_ranks)


def _all_ranks(row, table, sets):
    """The Ranks for some sets, and for all that these need for moves that lead further out."""
    known = {}
    todo = list(sets)
    while todo:
        places = table.cut(todo.pop())
        if places in known:
            continue
        rounds = table.rounds_of(places)
        numbers = numbers_of(rounds, len(row))
        known[places] = numbers
        for spot, number in zip(row, numbers):
            if number is not None and spot.up and not spot.is_goal:
                todo.append(rounds[number - 1])
    return [Ranks(places_of(places, len(row)), numbers) for places, numbers in known.items()]


def is_paper(book, told):
    """Whether the value is a right Paper of the book."""
    board = board_of(book)
    if not isinstance(told, Paper) or not tells_sets(board, told) or not leads_nowhere_else(board, told):
        return False
    below_row = flipped(board.below)
    if not _are_ranks(board.above, board.down_targets, told.above_ranks):
        return False
    if not _are_ranks(below_row, board.up_targets, told.below_ranks):
        return False
    above = _by_places(told.above_ranks)
    below = _by_places(told.below_ranks)
    return (_are_all_held(board.above, board.down_targets, above) and _are_all_held(below_row, board.up_targets, below)
            and _is_zone_ranked(board, told, above, below) and _is_middle_right(board, told, above, below))


def _are_ranks(row, targets, ranks):
    """Whether the value is a tuple of Ranks for unlike sets of targets, with numbers for the whole row."""
    if not isinstance(ranks, tuple):
        return False
    for each in ranks:
        if not isinstance(each, Ranks) or not is_ascending(each.places) or not _are_numbers(each.numbers, len(row)):
            return False
        if not all([place in targets for place in each.places]):
            return False
    return len(_by_places(ranks)) == len(ranks)


def _by_places(ranks):
    return {each.places: each.numbers for each in ranks}


def _are_numbers(value, many):
    if not isinstance(value, tuple) or len(value) != many:
        return False
    return all([number is None or (is_whole(number) and number >= 0) for number in value])


def is_less(number, limit):
    """Whether there is a number, and it is less than the limit."""
    return number is not None and number < limit


def targets_below(numbers, targets, limit):
    """Those of the targets whose numbers are less than the limit."""
    return tuple([place for place in targets if is_less(numbers[place], limit)])


def _are_all_held(row, targets, known):
    """Whether all places with numbers are held, in all Ranks of a zone."""
    for places, numbers in known.items():
        for spot, number in zip(row, numbers):
            if number is not None and not _is_held(spot, number, places, numbers, targets, known):
                return False
    return True


def _is_held(spot, number, places, numbers, targets, known):
    """Whether a place with this number is held in the Ranks for the places, with the numbers."""
    if spot.is_goal:
        return True
    goods = [target in places for target in spot.down] + [is_less(numbers[target], number) for target in spot.level]
    if spot.up:
        behind = known.get(targets_below(numbers, targets, number))
        goods.extend([behind is not None and is_less(behind[target], number) for target in spot.up])
    return _is_good(spot, goods)


def _is_good(spot, goods):
    """Whether the mover's moves are good as FIRST needs it."""
    return any(goods) if spot.side == 0 else all(goods)


def _is_zone_ranked(board, told, above, below):
    """Whether the told sets of the next levels outside of the middle have numbers in the Ranks."""
    for far in range(len(told.above) + 1):
        level = board.last + far
        if not _has_numbers(above, board.down_targets, set_at(board, told, level), set_at(board, told, level + 1)):
            return False
    for far in range(len(told.below) + 1):
        level = board.first - far
        if not _has_numbers(below, board.up_targets, set_at(board, told, level), set_at(board, told, level - 1)):
            return False
    return True


def _has_numbers(known, targets, aims, places):
    """Whether the Ranks for the aims, cut to the targets, have numbers for all these places."""
    numbers = known.get(tuple([place for place in aims if place in targets]))
    return numbers is not None and all([numbers[place] is not None for place in places])


def _is_middle_right(board, told, above, below):
    """Whether just the told places of the middle levels have numbers, each of them for a reason."""
    levels = told.middle_numbers
    if not isinstance(levels, tuple) or len(levels) != len(told.middle):
        return False
    for places, numbers in zip(told.middle, levels):
        if not _are_numbers(numbers, board.places):
            return False
        if places != tuple([place for place, number in enumerate(numbers) if number is not None]):
            return False
    for at, row in enumerate(board.middle):
        for spot, number in zip(row, levels[at]):
            if number is not None and not _is_middle_held(board, spot, number, levels, at, above, below):
                return False
    return True


def _is_middle_held(board, spot, number, levels, at, above, below):
    """Whether a place with this number is held on the middle level with the index at."""
    if spot.is_goal:
        return True
    numbers = levels[at]
    goods = [is_less(numbers[target], number) for target in spot.level]
    if at + 1 < len(levels):
        goods.extend([is_less(levels[at + 1][target], number) for target in spot.up])
    elif spot.up:
        goods.extend(_are_numbered(above.get(targets_below(numbers, board.down_targets, number)), spot.up))
    if at > 0:
        goods.extend([is_less(levels[at - 1][target], number) for target in spot.down])
    elif spot.down:
        goods.extend(_are_numbered(below.get(targets_below(numbers, board.up_targets, number)), spot.down))
    return _is_good(spot, goods)


def _are_numbered(numbers, targets):
    """For each target whether it has a number; none has one if there are no numbers."""
    return [numbers is not None and numbers[target] is not None for target in targets]


def told_winners(book, told):
    """The Winners with the sets of a right Paper."""
    if not is_paper(book, told):
        raise Unlike("paper")
    return Winners(board_of(book), told.middle, told.above, told.above_turn, told.below, told.below_turn)


def _tells_board(board, told):
    """Whether the value is a Winners of an equal board that tells a set for each level."""
    return (isinstance(told, Winners) and isinstance(told.board, Board) and told.board == board
            and tells_sets(board, told))


def is_outside(book, told):
    """Whether the value is a Winners that lets SECOND keep the wish away from all states outside of its sets."""
    board = board_of(book)
    return _tells_board(board, told) and leads_nowhere_else(board, told)


def is_closed_step(book, told):
    """Whether the value is a Winners whose sets are, at each level, just the steps of themselves."""
    board = board_of(book)
    return _tells_board(board, told) and all([found == own for found, own in told_steps(board, told)])
