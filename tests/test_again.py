"""[61] to [65]: goals again and again."""

import itertools
import time
import unittest

from anylead.again import again_at, again_forced, again_winners
from anylead.boards import Spot, board_of
from anylead.books import Book, Goal, Move
from anylead.errors import BadPlace, BadRow, TooMany, Unlike
from anylead.rounds import all_counts, at_least, at_most, every, none
from anylead.tables import flipped
from anylead.winners import Winners, winners
from helpers import FAR, NO_INTEGERS, NO_ROWS, goal_plainly, open_plainly, raises, rng
from test_papers import TOO_GREAT


def some_again_book(chance, most_places=5, most_width=2):
    """A book of the sizes of [65], perhaps with more targets."""
    places, width = chance.randint(1, most_places), chance.randint(1, most_width)

    def conditions(most):
        row = []
        for _ in range(chance.randint(0, most)):
            word = chance.choice(["least", "most", "is", "not", "rest"])
            m = chance.randint(1, width)
            row.append(("rest", m, chance.randrange(m)) if word == "rest" else (word, chance.randint(-3, 3)))
        return row

    moves = [Move(chance.randrange(places), conditions(1), chance.randint(-width, width), chance.randrange(places))
             for _ in range(chance.randint(places, 3 * places))]
    goals = [Goal(chance.randrange(places), conditions(2)) for _ in range(chance.randint(1, 4))]
    return Book([chance.randint(0, 1) for _ in range(places)], moves, goals)


def books(seed, many, most_targets=4, **sizes):
    chance = rng(seed)
    found = []
    while len(found) < many:
        book = some_again_book(chance, **sizes)
        board = board_of(book)
        if max(len(board.down_targets), len(board.up_targets)) <= most_targets:
            found.append((book, board))
    return found


def moved(spot, level_sets):
    """Whether the mover's moves lead into the sets (down, level, up) as FIRST needs it."""
    good = [q in aim for row, aim in zip((spot.down, spot.level, spot.up), level_sets) for q in row]
    return any(good) if spot.side == 0 else all(good)


def again_plainly(row):
    """[62]: the down targets, and the table G for ALL pairs of sets of them, by both rounds."""
    targets = frozenset(q for spot in row for q in spot.down)
    sets = [frozenset(some) for many in range(len(targets) + 1) for some in itertools.combinations(sorted(targets), many)]
    pairs = [(a, b) for a in sets for b in sets if a <= b]

    def at(table, a, b):
        return table[a & targets, b & targets]

    def inner(z):
        y = {pair: frozenset() for pair in pairs}
        while True:
            grown = {}
            for a, b in pairs:
                unseen = (a, y[a, b], at(y, y[a, b], z[b, b]))
                seen = (b, z[b, b], at(z, z[b, b], z[b, b]))
                grown[a, b] = frozenset(p for p, spot in enumerate(row) if moved(spot, seen if spot.is_goal else unseen))
            if grown == y:
                return y
            y = grown

    z = {pair: frozenset(range(len(row))) for pair in pairs}
    while inner(z) != z:
        z = inner(z)
    return targets, z


def capped(row, height, beyond, unseen, seen):
    """The same, by plain plays on so many levels; those that come above them are FIRST's if beyond is True."""
    places = range(len(row))
    states = [(p, level, late) for p in places for level in range(height) for late in (False, True)]

    def behind(state, won):
        p, level, late = state
        late = late or row[p].is_goal
        for way, targets in ((-1, row[p].down), (0, row[p].level), (1, row[p].up)):
            for q in targets:
                if level + way < 0:
                    yield q in (seen if late else unseen)
                elif level + way >= height:
                    yield beyond
                else:
                    yield (q, level + way, late) in won

    greater = set(states)
    while True:
        least = set()
        while True:
            grown = set()
            for state in states:
                good = list(behind(state, greater if row[state[0]].is_goal else least))
                if any(good) if row[state[0]].side == 0 else all(good):
                    grown.add(state)
            if grown == least:
                break
            least = grown
        if least == greater:
            return {p for p in places if (p, 0, False) in greater}
        greater = least


def window_plainly(book, low, high, beyond):
    """The states from which FIRST forces the wish again if plays beyond the window are FIRST's, or aren't."""
    states = [(p, n) for p in range(book.places) for n in range(low, high + 1)]
    ways = {(p, n): [(book.moves[i].target, n + book.moves[i].shift) for i in open_plainly(book, p, n)] for p, n in states}
    goals = {state: goal_plainly(book, *state) for state in states}
    greater = set(states)
    while True:
        least = set()
        while True:
            grown = set()
            for state in states:
                aim = greater if goals[state] else least
                good = [target in aim if low <= target[1] <= high else beyond for target in ways[state]]
                if any(good) if book.sides[state[0]] == 0 else all(good):
                    grown.add(state)
            if grown == least:
                break
            least = grown
        if least == greater:
            return greater
        greater = least


def passed(chance, places, many):
    row = list(places) + [chance.choice(list(places)) for _ in range(chance.randint(0, 2)) if places]
    row += [chance.choice([many, many + 3, FAR]) for _ in range(chance.randint(0, 2))]
    chance.shuffle(row)
    return chance.choice([tuple, list])(row)


class Forced(unittest.TestCase):
    def test_against_plain_rounds_over_all_pairs(self):
        chance = rng(621)
        found = set()
        for _, board in books(622, 25, 3) + books(623, 6, 4):
            for row in (board.above, flipped(board.below)):
                targets, table = again_plainly(row)
                for (a, b), told in table.items():
                    others = [p for p in range(len(row)) if p not in targets]
                    more = chance.sample(others, chance.randint(0, len(others)))
                    unseen = passed(chance, sorted(a) + more[:1], len(row))
                    seen = passed(chance, sorted(b) + more, len(row))
                    result = again_forced(row, unseen, seen)
                    self.assertEqual(result, tuple(sorted(told)))
                    found.add((len(a), len(b), len(result)))
        self.assertGreater(len(found), 40)

    def test_against_plain_plays(self):
        told = {}
        for _, board in books(624, 80, 2, most_places=3):
            row = board.above
            targets = board.down_targets
            for seen in itertools.chain.from_iterable(itertools.combinations(targets, k) for k in range(len(targets) + 1)):
                for unseen in [seen[:k] for k in range(len(seen) + 1)]:
                    result = set(again_forced(row, unseen, seen))
                    low, high = [capped(row, 10, beyond, unseen, seen) for beyond in (False, True)]
                    self.assertTrue(low <= result <= high)
                    key = (low == high, bool(result), len(unseen) < len(seen))
                    told[key] = told.get(key, 0) + 1
        self.assertGreater(told[True, True, True], 20)
        self.assertGreater(told[True, False, True], 5)

    def test_goals_on_the_way(self):
        def spot(side, level=(), down=(), up=(), is_goal=False):
            return Spot(side, is_goal, level, down, up, ())
        row = (spot(0, (), (3,)), spot(0, (), (3,), (), True), spot(0, (1,)), spot(1, (3,)), spot(0, (4,), (), (), True),
               spot(1), spot(0), spot(1, (), (), (), True), spot(0, (), (), (), True), spot(0, (), (), (0,)))
        self.assertEqual(again_forced(row, (), ()), (4, 5, 7))
        self.assertEqual(again_forced(row, (), (3,)), (1, 2, 4, 5, 7))
        self.assertEqual(again_forced(row, (3,), (3,)), (0, 1, 2, 4, 5, 7))
        # 9 goes up to 0, which descends to 3 there: from there SECOND goes round for ever.
        looping = row[:3] + (spot(1, (), (3,)),) + row[4:]
        self.assertEqual(again_forced(looping, (), (3,)), (1, 2, 4, 5, 7))
        self.assertEqual(again_forced(looping, (3,), (3,)), (0, 1, 2, 3, 4, 5, 7, 9))

    def test_excursions_behind_and_ahead_of_goals(self):
        def spot(side, level=(), down=(), up=(), is_goal=False):
            return Spot(side, is_goal, level, down, up, ())
        # 0 goes up to 1, a goal, which comes down to 2; 2 comes down to 3.
        row = (spot(0, (), (), (1,)), spot(0, (), (2,), (), True), spot(0, (), (3,)), spot(0))
        self.assertEqual(again_forced(row, (), (3,)), (0,))
        self.assertEqual(again_forced(row, (), (2,)), (1,))
        self.assertEqual(again_forced(row, (2,), (2, 3)), (0, 1))
        self.assertEqual(again_forced(row, (3,), (3,)), (0, 2))
        # 0, a goal, goes up to 1, which comes down to 2; 2 comes down to 3.
        row = (spot(0, (), (), (1,), True), spot(0, (), (2,)), spot(0, (), (3,)), spot(0))
        self.assertEqual(again_forced(row, (), (3,)), (0,))
        self.assertEqual(again_forced(row, (), (2, 3)), (0,))
        self.assertEqual(again_forced(row, (2, 3), (2, 3)), (0, 1, 2))

    def test_errors(self):
        row = board_of(Book((0, 1), (Move(0, (), -1, 1), Move(1, (), -1, 0)), ())).above
        bad = list(NO_ROWS) + [(item,) for item in NO_INTEGERS + (-1, -FAR)] + [[1, item] for item in NO_INTEGERS + (-1,)]
        for places in bad:
            raises(self, BadRow(places), again_forced, row, places, None)
            raises(self, BadRow(places), again_forced, row, (0, 1), places)
        for unseen, seen in (((0,), ()), ((0, 1), (1,)), ([1, 1, 0], [0, 7]), ((5, 1), (5, 0))):
            raises(self, Unlike("sets"), again_forced, row, unseen, seen)
        self.assertEqual(again_forced(row, (2, FAR), ()), again_forced(row, (), (9, 9)))
        one = board_of(Book((0, 1), (Move(0, (), -1, 1),), ())).above
        raises(self, Unlike("sets"), again_forced, one, (0,), (1,))


class Sets(unittest.TestCase):
    def test_against_windows(self):
        decided = {}
        for book, board in books(631, 90):
            one = again_winners(book)
            low, high = [window_plainly(book, -30, 30, beyond) for beyond in (False, True)]
            for place in range(book.places):
                for n in range(-11, 12):
                    told = one.wins(place, n)
                    self.assertTrue(((place, n) in low) <= told <= ((place, n) in high))
                    key = told if ((place, n) in low) == ((place, n) in high) else None
                    decided[key] = decided.get(key, 0) + 1
        self.assertGreater(min(decided[True], decided[False]), 1500, decided)

    def test_the_equations_of_the_zones(self):
        for book, board in books(632, 60):
            one = again_winners(book)
            self.assertIs(type(one), Winners)
            self.assertTrue(one.board == board and one.board.book is book)
            self.assertEqual(len(one.middle), board.last - board.first + 1)
            for sets, turn, row, places in ((one.above, one.above_turn, board.above, one.middle[-1]),
                                            (one.below, one.below_turn, flipped(board.below), one.middle[0])):
                self.assertEqual(len(set(sets)), len(sets))
                for found in sets:
                    places = again_forced(row, places, places)
                    self.assertEqual(places, found)
                self.assertEqual(again_forced(row, places, places), sets[turn])

    def test_the_middle_by_two_plain_rounds(self):
        for book, board in books(633, 40):
            above, below = again_plainly(board.above), again_plainly(flipped(board.below))

            def at(zone, a, b):
                return zone[1][frozenset(a) & zone[0], frozenset(b) & zone[0]]

            z = [frozenset(range(board.places))] * len(board.middle)
            while True:
                y = [frozenset()] * len(z)
                while True:
                    unseen = [at(below, y[0], z[0])] + y + [at(above, y[-1], z[-1])]
                    seen = [at(below, z[0], z[0])] + z + [at(above, z[-1], z[-1])]
                    grown = [frozenset(p for p, spot in enumerate(row)
                                       if moved(spot, (seen if spot.is_goal else unseen)[k:k + 3]))
                             for k, row in enumerate(board.middle)]
                    if grown == y:
                        break
                    y = grown
                if y == z:
                    break
                z = y
            self.assertEqual(again_winners(book).middle, tuple(tuple(sorted(places)) for places in z))

    def test_known_games(self):
        ring = Book((0, 0), (Move(0, (), 0, 1), Move(1, (), 0, 0)), (Goal(1, (("least", 2),)),))
        self.assertTrue(again_at(ring, 0) == at_least(2) and again_at(ring, 1) == at_least(2))
        down = Book((0,), (Move(0, (), -1, 0),), (Goal(0, (("rest", 2, 0), ("most", -1))),))
        self.assertTrue(again_at(down, 0) == all_counts())
        once = Book((0,), (Move(0, (), -1, 0),), (Goal(0, (("is", 0),)),))
        self.assertTrue(again_at(once, 0) == none())
        self.assertTrue(winners(once).at(0) == at_least(0))
        stuck = Book((1,), (Move(0, (("least", 1),), -1, 0),), ())
        self.assertTrue(again_at(stuck, 0) == all_counts())
        stuck_goal = Book((1, 0), (Move(0, (("least", 1),), -1, 0),), (Goal(0, (("is", 0),)), Goal(1, ())))
        self.assertTrue(again_at(stuck_goal, 0) == all_counts() and again_at(stuck_goal, 1) == none())
        # SECOND may leave the goals by going up, but only at even counts.
        leaving = Book((1, 1), (Move(0, (), 0, 0), Move(0, (("rest", 2, 0), ("least", 0)), 1, 1), Move(1, (), 1, 1)), (Goal(0, ()),))
        self.assertTrue(again_at(leaving, 0) == ~(every(2, 0) & at_least(0)))
        far = Book((0, 0), (Move(0, (), 1, 0), Move(0, (("is", 3),), 0, 1), Move(1, (), -1, 1)), (Goal(1, (("most", -2),)),))
        self.assertTrue(again_at(far, 0) == at_most(3))
        self.assertTrue(10 ** 60 not in again_at(far, 0) and -10 ** 60 in again_at(far, 0))

    def test_told_states_are_told_by_winners(self):
        for book, _ in books(634, 60):
            one, least = again_winners(book), winners(book)
            for place in range(book.places):
                self.assertTrue(again_at(book, place) == one.at(place))
                self.assertTrue(one.at(place).within(least.at(place)))

    def test_errors(self):
        raises(self, TooMany("places", 150), again_winners, TOO_GREAT)
        raises(self, TooMany("places", 150), again_at, TOO_GREAT, 0)
        for place in NO_INTEGERS + (-1, 2, FAR):
            raises(self, BadPlace(place), again_at, TOO_GREAT, place)


class Sizes(unittest.TestCase):
    def test_books_of_the_greatest_size(self):
        chance = rng(651)
        begin = time.process_time()
        many = 0
        while many < 150:
            book = some_again_book(chance)
            board = board_of(book)
            if board.places == 10 and 3 <= max(len(board.down_targets), len(board.up_targets)) <= 4:
                many += 1
                again_winners(book)
        self.assertLess(time.process_time() - begin, 40)


if __name__ == "__main__":
    unittest.main()
