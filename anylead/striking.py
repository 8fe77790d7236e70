"""How the places of two books are told apart, round by round."""

from anylead.books import all_hold, beside
from anylead.extents import condition_rows, limits_of, rest_step
from anylead.solving import by_place, indices_by_place, some_holds


class Striking:
    """The places of two books, those of the second behind those of the first, parted round by round.

    looks has a row for each place, with an item for each of the counts: None at a goal, otherwise the
    list of the open moves, as rows (index, shift, target). rounds has a row with the number of the class
    of each place for each round; the last one parts no class of the one ahead."""

    def __init__(self, one, other):
        self.first_moves = len(one.moves)
        self.first_places = one.places
        both = beside(one, other)
        self.sides = both.sides
        rows = condition_rows(both)
        reach = max([0] + [abs(k) for k in limits_of(rows)]) + rest_step(rows)
        self.counts = list(range(-reach, reach + 1))
        self.looks = _looks(both, self.counts)
        self.rounds = _rounds(self.sides, self.looks)


def _looks(book, counts):
    moves = indices_by_place(book.moves, book.places)
    goals = by_place(book.goals, book.places)
    return [[_look(book, moves[place], goals[place], n) for n in counts] for place in range(book.places)]


def _look(book, moves, goals, n):
    if some_holds(goals, n):
        return None
    return [(index, book.moves[index].shift, book.moves[index].target) for index in moves
            if all_hold(book.moves[index].conditions, n)]


def _rounds(sides, looks):
    rounds = [[0] * len(sides)]
    while True:
        known = {}
        numbers = []
        for side, row in zip(sides, looks):
            # Places with the same mark have for each move of the one a move of the other that leads into
            # the same class, as the classes of the round ahead are.
            mark = (side, tuple([_mark(look, rounds[-1]) for look in row]))
            numbers.append(known.setdefault(mark, len(known)))
        if numbers == rounds[-1]:
            return rounds
        rounds.append(numbers)


def _mark(look, numbers):
    if look is None:
        return None
    return tuple(sorted({(shift, numbers[target]) for _, shift, target in look}))


def are_parted(striking, place, another):
    """Whether a place of the first book and one of the second are not alike."""
    numbers = striking.rounds[-1]
    return numbers[place] != numbers[striking.first_places + another]


def round_of(striking, pair):
    """The number of the first round in which a pair of places is parted."""
    place, another = pair
    number = 0
    while striking.rounds[number][place] == striking.rounds[number][striking.first_places + another]:
        number += 1
    return number


def reason_for(striking, pair):
    """Why a pair is parted: a row (n, kind, index, pairs), pairs being those of the answers, parted earlier."""
    place = pair[0]
    another = striking.first_places + pair[1]
    if striking.sides[place] != striking.sides[another]:
        return 0, "side", None, []
    numbers = striking.rounds[round_of(striking, pair) - 1]
    for n, look, other_look in zip(striking.counts, striking.looks[place], striking.looks[another]):
        if look is None and other_look is None:
            continue
        if look is None or other_look is None:
            return n, "goal", None, []
        way = _unanswered(look, other_look, numbers)
        if way is not None:
            pairs = [(way[2], target - striking.first_places) for _, shift, target in other_look if shift == way[1]]
            return n, "move", way[0], pairs
        way = _unanswered(other_look, look, numbers)
        if way is not None:
            pairs = [(target, way[2] - striking.first_places) for _, shift, target in look if shift == way[1]]
            return n, "answer", way[0] - striking.first_moves, pairs


def _unanswered(look, other_look, numbers):
    """The first open move for which the other place has none that leads as far into the same class."""
    answers = {(shift, numbers[target]): True for _, shift, target in other_look}
    for way in look:
        if (way[1], numbers[way[2]]) not in answers:
            return way
    return None
