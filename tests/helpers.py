"""What several test files use: values that are no integers, plain reckonings, and books by chance."""

import functools
import itertools
import math
import random

from anylead.boards import board_of
from anylead.books import Book, Goal, Move
from anylead.rounds import Rounds
from anylead.winners import winners

FAR = 10 ** 59 + 7
NO_INTEGERS = (True, False, None, "1", 1.0, (1,), [1], {}, b"1")
NO_ROWS = (None, 5, True, "01", {0: 1}, {0, 1}, range(2), iter([0, 1]))


def error_of(call, *arguments):
    """The error that a call raises; None if it raises none."""
    try:
        call(*arguments)
    except Exception as error:
        return error
    return None


def raises(test, wanted, call, *arguments):
    """Asserts that the call raises just such an error, its fields being the very same values."""
    error = error_of(call, *arguments)
    test.assertIs(type(error), type(wanted), (error, wanted, arguments))
    test.assertEqual(list(vars(error)), list(vars(wanted)))
    for name, value in vars(wanted).items():
        found = getattr(error, name)
        test.assertIs(type(found), type(value), (name, found, value))
        test.assertTrue(found is value or found == value, (name, found, value))


def some_condition(chance, reach, most_m):
    word = chance.choice(["least", "most", "is", "not", "rest"])
    if word == "rest":
        m = chance.randint(1, most_m)
        return ("rest", m, chance.randrange(m))
    return (word, chance.randint(-reach, reach))


def some_conditions(chance, reach=5, most_m=4):
    return [some_condition(chance, reach, most_m) for _ in range(chance.randint(0, 2))]


def some_book(chance, most_places=4, most_moves=10, most_goals=2):
    places = chance.randint(1, most_places)
    moves = [Move(chance.randrange(places), some_conditions(chance), chance.randint(-3, 3), chance.randrange(places))
             for _ in range(chance.randint(0, most_moves))]
    goals = [Goal(chance.randrange(places), some_conditions(chance)) for _ in range(chance.randint(0, most_goals))]
    return Book([chance.randint(0, 1) for _ in range(places)], moves, goals)


def great_book(chance):
    """A book of the greatest size, most moves being open at most counts."""
    words = [(), (("least", -10),), (("most", 10),), (("rest", 3, 1),), (("not", 12),), (("rest", 4, 2),)]
    moves = [Move(i % 12, chance.choice(words), chance.randint(-4, 4), chance.randrange(12)) for i in range(60)]
    goals = [Goal(i, (("is", chance.randint(-12, 12)), ("rest", 6, chance.randrange(6)))) for i in range(12)]
    return Book([chance.randint(0, 1) for _ in range(12)], moves, goals)


def holds_plainly(conditions, n):
    tests = {"least": lambda k: n >= k, "most": lambda k: n <= k, "is": lambda k: n == k, "not": lambda k: n != k,
             "rest": lambda m, r: (n - r) % m == 0}
    return all(tests[word](*numbers) for word, *numbers in conditions)


def open_plainly(book, place, n):
    return [i for i, move in enumerate(book.moves) if move.place == place and holds_plainly(move.conditions, n)]


def goal_plainly(book, place, n):
    return any(goal.place == place and holds_plainly(goal.conditions, n) for goal in book.goals)


def forces_plainly(book, window=None):
    """The function of turns, place and count that tells [10] (and [22]) word by word."""

    @functools.lru_cache(None)
    def told(turns, place, n):
        if window and not window[0] <= n <= window[1]:
            return window[2]
        if goal_plainly(book, place, n):
            return True
        moves = [book.moves[i] for i in open_plainly(book, place, n)]
        if book.sides[place] == 1 and not moves:
            return True
        if turns == 0:
            return False
        behind = [told(turns - 1, move.target, n + move.shift) for move in moves]
        return any(behind) if book.sides[place] == 0 else all(behind)

    return told


def least_plainly(told, most, place, n):
    return next((turns for turns in range(most + 1) if told(turns, place, n)), None)


def member_plainly(start, below, middle, above, n):
    """[14], word by word."""
    end = start + len(middle)
    if n >= end:
        return above[(n - end) % len(above)]
    if n >= start:
        return middle[n - start]
    return below[(n - start) % len(below)]


def some_row(chance, least, most):
    likely = chance.choice([0, 0.2, 0.5, 0.8, 1])
    return [chance.random() < likely for _ in range(chance.randint(least, most))]


def some_rounds(chance, far=0):
    return Rounds(chance.randint(-8, 8) + far, some_row(chance, 1, 5), some_row(chance, 0, 6), some_row(chance, 1, 5))


def form_of(one):
    return one.start, one.below, one.middle, one.above


def rng(seed):
    return random.Random(seed)


def some_doubled_book(chance, places=5):
    """A book in which some places are written a second time, perhaps with one thing changed."""
    book = some_book(chance, places, 10, 3)
    copies = [chance.randrange(book.places) for _ in range(chance.randint(1, 3))]
    sides = list(book.sides) + [book.sides[place] for place in copies]
    moves, goals = list(book.moves), list(book.goals)
    for number, place in enumerate(copies, start=book.places):
        same = [place] + [other for other, copied in enumerate(copies, start=book.places) if copied == place]
        moves += [Move(number, move.conditions, move.shift, chance.choice(same) if move.target == place else move.target)
                  for move in book.moves if move.place == place]
        goals += [Goal(number, goal.conditions) for goal in book.goals if goal.place == place]
    if moves and chance.random() < 0.4:
        at = chance.randrange(len(moves))
        moves[at] = Move(moves[at].place, some_conditions(chance), moves[at].shift, moves[at].target)
    chance.shuffle(moves)
    return Book(sides, moves, goals)


def reach_plainly(*books):
    """The greatest T of the books, and a common multiple of all their rests."""
    rows = [row for book in books for rule in book.moves + book.goals for row in rule.conditions]
    return (max([0] + [abs(row[1]) for row in rows if row[0] != "rest"]),
            math.lcm(*[row[1] for row in rows if row[0] == "rest"]))


def alike_plainly(one, other):
    """The greatest likeness, struck out round by round over the counts that [29] names."""
    bound, step = reach_plainly(one, other)
    counts = range(-bound - step, bound + step + 1)
    looks = [{(place, n): None if goal_plainly(book, place, n) else
              [(book.moves[i].shift, book.moves[i].target) for i in open_plainly(book, place, n)]
              for place in range(book.places) for n in counts} for book in (one, other)]
    pairs = {(p, q) for p in range(one.places) for q in range(other.places) if one.sides[p] == other.sides[q]}

    def keeps(pair):
        for n in counts:
            mine, yours = looks[0][pair[0], n], looks[1][pair[1], n]
            if (mine is None) != (yours is None):
                return False
            if mine is None:
                continue
            if not all(any(shift == by and (p, q) in pairs for by, q in yours) for shift, p in mine):
                return False
            if not all(any(shift == by and (p, q) in pairs for by, p in mine) for shift, q in yours):
                return False
        return True

    while True:
        kept = {pair for pair in pairs if keeps(pair)}
        if kept == pairs:
            return pairs
        pairs = kept


def next_plainly(book, player, place, n):
    """[36]: the state behind the player's answer, or the word for how the play has ended."""
    choices = open_plainly(book, place, n)
    if goal_plainly(book, place, n) or (not choices and book.sides[place] == 1):
        return "first"
    if not choices:
        return "second"
    index = next((index for at, counts, index in player if at == place and n in counts and index in choices), choices[0])
    return book.moves[index].target, n + book.moves[index].shift


def walk_plainly(book, player, place, n, most):
    """How the course ends, None if it hasn't behind so many moves; and the list of its states till then."""
    states = [(place, n)]
    while len(states) <= most:
        behind = next_plainly(book, player, *states[-1])
        if isinstance(behind, str):
            return behind, states
        states.append(behind)
    return None, states


def some_player(chance, book, many):
    rows = []
    for _ in range(many if book.moves else 0):
        index = chance.randrange(len(book.moves))
        rows.append((book.moves[index].place, some_rounds(chance), index))
    return rows


def step_plainly(row, down, level, up):
    """[39]: the step, as a frozenset."""
    found = set()
    for place, spot in enumerate(row):
        good = [q in aim for rows, aim in ((spot.down, down), (spot.level, level), (spot.up, up)) for q in rows]
        if spot.is_goal or (any(good) if spot.side == 0 else all(good)):
            found.add(place)
    return frozenset(found)


def rounds_plainly(row):
    """[40]: the down targets, and the list of the tables G_0, G_1, .. for ALL sets of them."""
    targets = frozenset(q for spot in row for q in spot.down)
    sets = [frozenset(some) for many in range(len(targets) + 1) for some in itertools.combinations(sorted(targets), many)]
    rounds = [{some: frozenset() for some in sets}]
    while True:
        last = rounds[-1]
        grown = {some: step_plainly(row, some, last[some], last[last[some] & targets]) for some in sets}
        if grown == last:
            return targets, rounds
        rounds.append(grown)


def some_small_books(seed, many, most_places=16, most_targets=5):
    """Books with so few board places and targets in both zones, with their boards."""
    chance = rng(seed)
    found = []
    while len(found) < many:
        book = some_book(chance, 3, 10, 2)
        board = board_of(book)
        if board.places <= most_places and max(len(board.down_targets), len(board.up_targets)) <= most_targets:
            found.append((book, board))
    return found


def deep_book(chance):
    """A book of which far out there is much to do, up and down, before the middle is come to."""
    places = chance.randint(3, 6)
    words = [()] * 4 + [(("least", 1),), (("most", -1),), (("not", 0),)]
    moves = [Move(chance.randrange(places), chance.choice(words), chance.choice([-1, -1, 0, 1, 1]), chance.randrange(places))
             for _ in range(chance.randint(places, 2 * places + 2))]
    goals = [Goal(chance.randrange(places), (("is", chance.choice([0, 1, -1])),)) for _ in range(chance.randint(1, 2))]
    return Book([0 if chance.random() < 0.65 else 1 for _ in range(places)], moves, goals)


def late_books(seed, many):
    """Books whose told sets come round only from some level on, some of them by more than one level."""
    chance = rng(seed)
    found, turning = [], 0
    while len(found) < many or turning < many // 4:
        book = deep_book(chance)
        one = winners(book)
        turns = one.above_turn + one.below_turn
        periods = len(one.above) - one.above_turn > 1 or len(one.below) - one.below_turn > 1
        if turns > 0 and (len(found) < many or periods):
            found.append(book)
            turning += periods
    return found


def late_ring_book():
    """A ring of three and a way that comes to its end, downwards, and SECOND above both: from the third level on by three levels."""
    rows = [(0, 1), (1, 2), (2, 0), (3, 4), (4, 5), (6, 0), (6, 3), (6, 1)]
    moves = [Move(place, (), -1, target) for place, target in rows]
    return Book((0, 0, 0, 0, 0, 0, 1), moves, [Goal(place, (("is", 0),)) for place in (0, 5)])


def taking_book(takes):
    """Both sides take in turn one of some numbers from the count; who can't has lost."""
    return Book((0, 1), [Move(side, (("least", many),), -many, 1 - side) for side in (0, 1) for many in takes], ())


def rings_book():
    """FIRST goes down round three rings of 2, 3 and 5 places; goals are at 0: above all comes round by 30 levels."""
    rings = [[0, 1], [2, 3, 4], [5, 6, 7, 8, 9]]
    moves = [Move(place, (), -1, ring[at - 1]) for ring in rings for at, place in enumerate(ring)]
    return Book((0,) * 10, moves, [Goal(place, (("is", 0),)) for place in (0, 2, 5)])
