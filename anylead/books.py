"""Books of rules: who moves at each place, and which moves are open at which counts."""

from anylead.checks import is_index, is_row, is_whole, need_state, need_whole, tupled
from anylead.errors import BadBook, BadRow, NoMove

WORDS = ("least", "most", "is", "not")


class Move:
    """A move of a place: when it is open, what it adds to the count, and where it leads."""

    def __init__(self, place, conditions, shift, target):
        self.place = place
        self.conditions = tupled(conditions)
        self.shift = shift
        self.target = target

    def __eq__(self, other):
        return (isinstance(other, Move) and self.place == other.place and self.conditions == other.conditions
                and self.shift == other.shift and self.target == other.target)


class Goal:
    """The counts, told by conditions, at which a place is a goal."""

    def __init__(self, place, conditions):
        self.place = place
        self.conditions = tupled(conditions)

    def __eq__(self, other):
        return isinstance(other, Goal) and self.place == other.place and self.conditions == other.conditions


class Book:
    """Who moves at each place (0 for FIRST, 1 for SECOND), the moves, and the goals."""

    def __init__(self, sides, moves, goals):
        _need_sides(sides)
        places = len(sides)
        _need_moves(moves, places)
        _need_goals(goals, places)
        self.sides = tuple(sides)
        self.moves = tuple(moves)
        self.goals = tuple(goals)
        self.places = places

    def __eq__(self, other):
        return (isinstance(other, Book) and self.sides == other.sides and self.moves == other.moves
                and self.goals == other.goals)


def _need_sides(sides):
    if not is_row(sides) or len(sides) == 0:
        raise BadBook("sides", None)
    for index, side in enumerate(sides):
        if not is_index(side, 2):
            raise BadBook("sides", index)


def _need_moves(moves, places):
    if not is_row(moves):
        raise BadBook("moves", None)
    for index, move in enumerate(moves):
        if not _is_move(move, places):
            raise BadBook("moves", index)


def _need_goals(goals, places):
    if not is_row(goals):
        raise BadBook("goals", None)
    for index, goal in enumerate(goals):
        if not _is_goal(goal, places):
            raise BadBook("goals", index)


def _is_move(value, places):
    return (isinstance(value, Move) and is_index(value.place, places) and _is_conditions(value.conditions)
            and is_whole(value.shift) and is_index(value.target, places))


def _is_goal(value, places):
    return isinstance(value, Goal) and is_index(value.place, places) and _is_conditions(value.conditions)


def _is_conditions(value):
    return isinstance(value, tuple) and all([_is_condition(item) for item in value])


def _is_condition(value):
    if not isinstance(value, tuple) or len(value) < 2 or not isinstance(value[0], str):
        return False
    if not all([is_whole(number) for number in value[1:]]):
        return False
    if value[0] == "rest":
        return len(value) == 3 and 0 <= value[2] < value[1]
    return value[0] in WORDS and len(value) == 2


def condition_holds(condition, n):
    """Whether one condition holds for a count."""
    word = condition[0]
    k = condition[1]
    if word == "least":
        return n >= k
    if word == "most":
        return n <= k
    if word == "is":
        return n == k
    if word == "not":
        return n != k
    return (n - condition[2]) % k == 0


def all_hold(conditions, n):
    """Whether each condition of a row holds for a count."""
    for condition in conditions:
        if not condition_holds(condition, n):
            return False
    return True


def holds(conditions, n):
    """Whether a row of conditions holds for the count n."""
    need_whole("count", n)
    return all_hold(conditions, n)


def open_moves(book, place, n):
    """The indices of all moves of the place that are open at the count n."""
    need_state(book, place, n)
    return tuple([index for index, move in enumerate(book.moves)
                  if move.place == place and all_hold(move.conditions, n)])


def is_goal(book, place, n):
    """Whether some goal of the place holds for the count n."""
    need_state(book, place, n)
    return any([goal.place == place and all_hold(goal.conditions, n) for goal in book.goals])


def after(book, index, n):
    """The state behind the move with this index, made at the count n."""
    need_whole("count", n)
    if not is_index(index, len(book.moves)):
        raise NoMove(index)
    move = book.moves[index]
    if not all_hold(move.conditions, n):
        raise NoMove(index)
    return (move.target, n + move.shift)


def _turned_condition(condition, sign, by):
    """The condition that holds for n as the given one does for sign * (n - by)."""
    word = condition[0]
    if word == "rest":
        m = condition[1]
        return ("rest", m, (sign * condition[2] + by) % m)
    if sign < 0 and word == "least":
        word = "most"
    elif sign < 0 and word == "most":
        word = "least"
    return (word, sign * condition[1] + by)


def _turned(book, sign, by):
    """The book that plays at by + sign * n as the given one does at n."""
    moves = []
    for move in book.moves:
        conditions = [_turned_condition(condition, sign, by) for condition in move.conditions]
        moves.append(Move(move.place, conditions, sign * move.shift, move.target))
    goals = []
    for goal in book.goals:
        goals.append(Goal(goal.place, [_turned_condition(condition, sign, by) for condition in goal.conditions]))
    return Book(book.sides, moves, goals)


def mirrored(book):
    """The book that plays at -n as the given one does at n."""
    return _turned(book, -1, 0)


def lifted(book, by):
    """The book that plays at n + by as the given one does at n."""
    need_whole("by", by)
    return _turned(book, 1, by)


def _placed(book, order):
    """The moves and the goals of a book, each place p replaced by order[p]."""
    moves = [Move(order[move.place], move.conditions, move.shift, order[move.target]) for move in book.moves]
    goals = [Goal(order[goal.place], goal.conditions) for goal in book.goals]
    return moves, goals


def beside(one, other):
    """The book with the places of both, those of other behind those of one."""
    places = [one.places + place for place in range(other.places)]
    moves, goals = _placed(other, places)
    return Book(one.sides + other.sides, list(one.moves) + moves, list(one.goals) + goals)


def numbered(book, order):
    """The book in which place p has the number order[p]."""
    if not is_row(order) or len(order) != book.places:
        raise BadRow(order)
    sides = [None] * book.places
    for place, number in enumerate(order):
        if not is_index(number, book.places) or sides[number] is not None:
            raise BadRow(order)
        sides[number] = book.sides[place]
    moves, goals = _placed(book, order)
    return Book(sides, moves, goals)


def without(book, index):
    """The book without the move with this index."""
    if not is_index(index, len(book.moves)):
        raise NoMove(index)
    return Book(book.sides, book.moves[:index] + book.moves[index + 1:], book.goals)
