"""Places that are alike for all counts, and how it is shown that two are not."""

from anylead.books import Book, Goal, Move, all_hold, is_goal, open_moves
from anylead.checks import is_index, is_whole, need_place, tupled
from anylead.striking import Striking, are_parted, reason_for, round_of


def likeness(one, other):
    """The greatest likeness of two books, as the ascending row of its pairs."""
    striking = Striking(one, other)
    return tuple([(place, another) for place in range(one.places) for another in range(other.places)
                  if not are_parted(striking, place, another)])


def is_alike(one, place, other, another):
    """Whether a place of the first book and a place of the second are alike."""
    need_place(one, place)
    need_place(other, another)
    return not are_parted(Striking(one, other), place, another)


def classes(book):
    """A number for each place, the same for alike places."""
    return tuple(Striking(book, book).rounds[-1][:book.places])


def least_book(book):
    """The book whose places are the numbers of the classes."""
    numbers = classes(book)
    firsts = [numbers.index(number) for number in range(max(numbers) + 1)]
    moves = []
    for move in book.moves:
        if move.place in firsts:
            least = Move(numbers[move.place], move.conditions, move.shift, numbers[move.target])
            if least not in moves:
                moves.append(least)
    goals = []
    for goal in book.goals:
        if goal.place in firsts:
            least = Goal(numbers[goal.place], goal.conditions)
            if least not in goals:
                goals.append(least)
    return Book([book.sides[place] for place in firsts], moves, goals)


class Difference:
    """Why a place of the first book and one of the second are not alike, in a row of such."""

    def __init__(self, place, other, n, kind, index, answers):
        self.place = tupled(place)
        self.other = tupled(other)
        self.n = tupled(n)
        self.kind = tupled(kind)
        self.index = tupled(index)
        self.answers = tupled(answers)

    def __eq__(self, other):
        return (isinstance(other, Difference) and self.place == other.place and self.other == other.other
                and self.n == other.n and self.kind == other.kind and self.index == other.index
                and self.answers == other.answers)


def differences(one, place, other, another):
    """A row of Differences that shows that the two places are not alike; None if they are."""
    need_place(one, place)
    need_place(other, another)
    striking = Striking(one, other)
    if not are_parted(striking, place, another):
        return None
    reasons = {}
    todo = [(place, another)]
    while todo:
        pair = todo.pop()
        if pair not in reasons:
            reasons[pair] = reason_for(striking, pair)
            todo.extend(reasons[pair][3])
    # The pairs of answers are parted in earlier rounds, so the asked pair comes last.
    order = sorted([(round_of(striking, pair), pair) for pair in reasons])
    numbers = {pair: number for number, (_, pair) in enumerate(order)}
    row = []
    for _, pair in order:
        n, kind, index, pairs = reasons[pair]
        row.append(Difference(pair[0], pair[1], n, kind, index, [numbers[behind] for behind in pairs]))
    return tuple(row)


def shows_unlike(one, place, other, another, told):
    """Whether told is a row of right Differences, the last of which has these two places."""
    need_place(one, place)
    need_place(other, another)
    if not isinstance(told, tuple) or len(told) == 0:
        return False
    for number, item in enumerate(told):
        if not isinstance(item, Difference) or not _is_right(one, other, told, number):
            return False
    return told[-1].place == place and told[-1].other == another


def _is_right(one, other, told, number):
    """Whether the Difference with this number is right, those ahead of it in the row being right."""
    item = told[number]
    if not is_index(item.place, one.places) or not is_index(item.other, other.places) or not is_whole(item.n):
        return False
    if not isinstance(item.kind, str) or not isinstance(item.answers, tuple):
        return False
    if item.kind == "move" or item.kind == "answer":
        return _is_answered(one, other, told, number)
    if item.index is not None or len(item.answers) > 0:
        return False
    if item.kind == "side":
        return one.sides[item.place] != other.sides[item.other]
    return item.kind == "goal" and is_goal(one, item.place, item.n) != is_goal(other, item.other, item.n)


def _is_answered(one, other, told, number):
    """Whether the Difference tells an open move, and for each answer to it an earlier Difference."""
    item = told[number]
    if is_goal(one, item.place, item.n) or is_goal(other, item.other, item.n):
        return False
    moving = item.kind == "move"
    book, place, answering, another = one, item.place, other, item.other
    if not moving:
        book, place, answering, another = other, item.other, one, item.place
    if not is_index(item.index, len(book.moves)):
        return False
    move = book.moves[item.index]
    if move.place != place or not all_hold(move.conditions, item.n):
        return False
    replies = [answering.moves[index] for index in open_moves(answering, another, item.n)]
    targets = [reply.target for reply in replies if reply.shift == move.shift]
    if len(item.answers) != len(targets):
        return False
    for answer, target in zip(item.answers, targets):
        pair = (move.target, target) if moving else (target, move.target)
        if not is_index(answer, number) or (told[answer].place, told[answer].other) != pair:
            return False
    return True
