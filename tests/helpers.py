"""What several test files use: values that are no integers, plain reckonings, and books by chance."""

import functools
import random

from anylead.books import Book, Goal, Move
from anylead.rounds import Rounds

FAR = 10 ** 59 + 7
NO_INTEGERS = (True, False, None, "1", 1.0, (1,), [1], {}, b"1")
NO_ROWS = (None, 5, True, "01", {0: 1}, {0, 1}, range(2), iter([0, 1]))


def error_of(call, *arguments):
    """The error that a call raises; None if it raises none."""
    try:
        call(*arguments)
    except Exception as error:
        return error
    return None


def raises(test, wanted, call, *arguments):
    """Asserts that the call raises just such an error, its fields being the very same values."""
    error = error_of(call, *arguments)
    test.assertIs(type(error), type(wanted), (error, wanted, arguments))
    test.assertEqual(list(vars(error)), list(vars(wanted)))
    for name, value in vars(wanted).items():
        found = getattr(error, name)
        test.assertIs(type(found), type(value), (name, found, value))
        test.assertTrue(found is value or found == value, (name, found, value))


def some_condition(chance, reach, most_m):
    word = chance.choice(["least", "most", "is", "not", "rest"])
    if word == "rest":
        m = chance.randint(1, most_m)
        return ("rest", m, chance.randrange(m))
    return (word, chance.randint(-reach, reach))


def some_conditions(chance, reach=5, most_m=4):
    return [some_condition(chance, reach, most_m) for _ in range(chance.randint(0, 2))]


def some_book(chance, most_places=4, most_moves=10, most_goals=2):
    places = chance.randint(1, most_places)
    moves = [Move(chance.randrange(places), some_conditions(chance), chance.randint(-3, 3), chance.randrange(places))
             for _ in range(chance.randint(0, most_moves))]
    goals = [Goal(chance.randrange(places), some_conditions(chance)) for _ in range(chance.randint(0, most_goals))]
    return Book([chance.randint(0, 1) for _ in range(places)], moves, goals)


def great_book(chance):
    """A book of the greatest size, most moves being open at most counts."""
    words = [(), (("least", -10),), (("most", 10),), (("rest", 3, 1),), (("not", 12),), (("rest", 4, 2),)]
    moves = [Move(i % 12, chance.choice(words), chance.randint(-4, 4), chance.randrange(12)) for i in range(60)]
    goals = [Goal(i, (("is", chance.randint(-12, 12)), ("rest", 6, chance.randrange(6)))) for i in range(12)]
    return Book([chance.randint(0, 1) for _ in range(12)], moves, goals)


def holds_plainly(conditions, n):
    tests = {"least": lambda k: n >= k, "most": lambda k: n <= k, "is": lambda k: n == k, "not": lambda k: n != k,
             "rest": lambda m, r: (n - r) % m == 0}
    return all(tests[word](*numbers) for word, *numbers in conditions)


def open_plainly(book, place, n):
    return [i for i, move in enumerate(book.moves) if move.place == place and holds_plainly(move.conditions, n)]


def goal_plainly(book, place, n):
    return any(goal.place == place and holds_plainly(goal.conditions, n) for goal in book.goals)


def forces_plainly(book, window=None):
    """The function of turns, place and count that tells [10] (and [22]) word by word."""

    @functools.lru_cache(None)
    def told(turns, place, n):
        if window and not window[0] <= n <= window[1]:
            return window[2]
        if goal_plainly(book, place, n):
            return True
        moves = [book.moves[i] for i in open_plainly(book, place, n)]
        if book.sides[place] == 1 and not moves:
            return True
        if turns == 0:
            return False
        behind = [told(turns - 1, move.target, n + move.shift) for move in moves]
        return any(behind) if book.sides[place] == 0 else all(behind)

    return told


def least_plainly(told, most, place, n):
    return next((turns for turns in range(most + 1) if told(turns, place, n)), None)


def member_plainly(start, below, middle, above, n):
    """[14], word by word."""
    end = start + len(middle)
    if n >= end:
        return above[(n - end) % len(above)]
    if n >= start:
        return middle[n - start]
    return below[(n - start) % len(below)]


def some_row(chance, least, most):
    likely = chance.choice([0, 0.2, 0.5, 0.8, 1])
    return [chance.random() < likely for _ in range(chance.randint(least, most))]


def some_rounds(chance, far=0):
    return Rounds(chance.randint(-8, 8) + far, some_row(chance, 1, 5), some_row(chance, 0, 6), some_row(chance, 1, 5))


def form_of(one):
    return one.start, one.below, one.middle, one.above


def rng(seed):
    return random.Random(seed)
