"""[37], [38]: courses of players, far away and without end."""

import math
import time
import unittest

from anylead.books import Book, Goal, Move, mirrored
from anylead.players import Outcome, course, state_behind
from anylead.rounds import Rounds, all_counts, at_least, at_most, every
from helpers import FAR, rng, some_book, some_player, some_rounds, walk_plainly

PARTS = ("kind", "ahead", "place", "n", "period", "shift")
# The period of the lengths 5, 7, 8, 9, 11 is 27720.
LENGTHS = (5, 7, 8, 9, 11)


def parts_of(outcome):
    return tuple(getattr(outcome, name) for name in PARTS)


def on_plainly(states):
    """(ahead, period, shift) of a course that never ends, of which a long beginning is known."""
    last = len(states) - 1
    for period in range(1, len(states) // 4):
        shift = states[last][1] - states[last - period][1]
        ahead = last - period + 1
        while ahead > 0 and states[ahead - 1 + period] == (states[ahead - 1][0], states[ahead - 1][1] + shift):
            ahead -= 1
        if ahead < len(states) // 2:
            return ahead, period, shift
    return None


def falling_book(chance):
    """A book in which moves far above mostly lead down."""
    book = some_book(chance, 3, 8, 2)
    moves = [move if move.shift <= 0 or chance.random() < 0.2 else
             Move(move.place, move.conditions + (("most", 5),), move.shift, move.target) for move in book.moves]
    moves += [Move(place, (("least", chance.randint(-2, 3)),), -1, chance.randrange(book.places)) for place in range(book.places)
              if chance.random() < 0.8]
    goals = [Goal(goal.place, goal.conditions + (("most", 5),)) for goal in book.goals]
    return Book(book.sides, moves, goals)


def in_good_time(test, call, *arguments):
    begin = time.process_time()
    told = call(*arguments)
    test.assertLess(time.process_time() - begin, 20)
    return told


class Near(unittest.TestCase):
    def test_each_kind(self):
        down = Move(0, (("least", 1),), -1, 0)
        for book, n, wanted in (
                (Book((0,), (down,), (Goal(0, (("is", 0),)),)), 7, ("first", 7, 0, 0, 0, 0)),
                (Book((0,), (down,), (Goal(0, (("is", 0),)),)), 0, ("first", 0, 0, 0, 0, 0)),
                (Book((1,), (down,), ()), 7, ("first", 7, 0, 0, 0, 0)), (Book((0,), (down,), ()), 7, ("second", 7, 0, 0, 0, 0)),
                (Book((0,), (down,), ()), -7, ("second", 0, 0, -7, 0, 0)),
                (Book((0,), (Move(0, (), 3, 0),), ()), 7, ("on", 0, 0, 7, 1, 3)),
                (Book((1,), (Move(0, (), -4, 0),), ()), 7, ("on", 0, 0, 7, 1, -4)),
                (Book((1,), (Move(0, (), 0, 0),), ()), -7, ("on", 0, 0, -7, 1, 0)),
                (Book((0, 1), (Move(0, (), 1, 1), Move(1, (), -1, 0)), ()), 7, ("on", 0, 0, 7, 2, 0)),
                (Book((0, 1, 1), (Move(0, (), 1, 1), Move(1, (), 1, 1), Move(2, (), 1, 0)), ()), 7, ("on", 1, 1, 8, 1, 1)),
                (Book((0,), (Move(0, (("rest", 2, 0),), 1, 0), Move(0, (), 3, 0)), ()), 1, ("on", 0, 0, 1, 2, 4)),
                (Book((0,), (Move(0, (("least", 9),), 2, 0), Move(0, (), 1, 0)), ()), 1, ("on", 8, 0, 9, 1, 2))):
            self.assertEqual(parts_of(course(book, (), 0, n)), wanted)
            self.assertIs(type(course(book, (), 0, n)), Outcome)

    def test_against_a_walk_move_by_move(self):
        chance = rng(371)
        kinds = {}
        for number in range(900):
            book = some_book(chance, 4, 12, number % 2)
            player = some_player(chance, book, chance.randint(0, 6))
            place, n = chance.randrange(book.places), chance.choice([chance.randint(-12, 12), chance.randint(-200, 200)])
            kind, states = walk_plainly(book, player, place, n, 1200)
            told = course(book, player, place, n)
            for turns in (0, 1, 2, 3, 50, len(states) - 1, len(states), len(states) + 7, chance.randrange(len(states))):
                if kind is not None or turns < len(states):
                    wanted = states[turns] if turns < len(states) else None
                    self.assertEqual(state_behind(book, player, place, n, turns), wanted)
            if kind is not None:
                self.assertEqual(parts_of(told), (kind, len(states) - 1, *states[-1], 0, 0))
            elif on_plainly(states) is not None:
                ahead, period, shift = on_plainly(states)
                kind = ("on", (shift > 0) - (shift < 0), ahead > 3)
                self.assertEqual(parts_of(told), ("on", ahead, *states[ahead], period, shift))
            kinds[kind] = kinds.get(kind, 0) + 1
        self.assertGreater(min(kinds.get(kind, 0) for kind in ["first", "second"] + [
            ("on", sign, late) for sign in (1, 0, -1) for late in (False, True)]), 9, kinds)

    def test_no_counts_between_both_zones(self):
        # From above 0 four down, from below 0 four up: the course never comes to 0 itself.
        book = Book((0,), (Move(0, (("least", 0),), -4, 0), Move(0, (("most", 0),), 4, 0)), ())
        for n in (1, 2, 3, -1, -2, -3, 41, -43, FAR, -FAR):
            if n % 4 == 0:
                continue
            low = n % 4 - 4
            wanted = (n - low) // 4 - 1 if n > 0 else (n % 4 - n) // 4 - 1
            self.assertEqual(parts_of(course(book, (), 0, n)), (
                "on", wanted, 0, n % 4 if n > 0 else low, 2, 0))


class Far(unittest.TestCase):
    def test_the_example(self):
        book = Book((0,), (Move(0, (("least", 1),), -1, 0), Move(0, (("most", 0),), 3, 0)), ())
        self.assertTrue(course(book, (), 0, 10 ** 30) == Outcome("on", 10 ** 30 - 3, 0, 3, 4, 0))
        self.assertEqual(state_behind(book, (), 0, 10 ** 30, 10 ** 30), (0, 0))
        self.assertTrue(course(book, (), 0, -10 ** 30) == Outcome("on", (10 ** 30 + 2) // 3, 0, 2, 4, 0))

    def test_ends_far_away(self):
        book = Book((0, 1), (Move(0, (("least", 1),), -1, 1), Move(1, (("least", 1),), 0, 0)), (Goal(0, (("is", 0),)),))
        self.assertEqual(parts_of(course(book, (), 0, FAR)), ("first", 2 * FAR - 1, 1, 0, 0, 0))
        self.assertEqual(state_behind(book, (), 0, FAR, 2 * FAR - 1), (1, 0))
        self.assertEqual(state_behind(book, (), 0, FAR, 2 * FAR - 2), (0, 1))
        self.assertIsNone(state_behind(book, (), 0, FAR, 2 * FAR))
        self.assertIsNone(state_behind(book, (), 0, FAR, 10 ** 60 - 1))
        self.assertEqual(parts_of(course(mirrored(book), (), 0, -FAR)), ("first", 2 * FAR - 1, 1, 0, 0, 0))
        goal = Book((0,), (Move(0, (), -1, 0),), (Goal(0, (("rest", 6, 5),)),))
        self.assertEqual(parts_of(course(goal, (), 0, 6 * FAR)), ("first", 1, 0, 6 * FAR - 1, 0, 0))

    def test_for_ever_through_all_counts(self):
        up = Book((0,), (Move(0, (("not", 3),), 1, 0), Move(0, (("is", 3),), 1, 0)), ())
        self.assertEqual(parts_of(course(up, (), 0, -FAR)), ("on", 0, 0, -FAR, 1, 1))
        self.assertEqual(parts_of(course(mirrored(up), (), 0, FAR)), ("on", 0, 0, FAR, 1, -1))
        self.assertEqual(state_behind(up, (), 0, -FAR, 2 * FAR), (0, FAR))
        player = ((0, every(5, 0) & at_most(-3), 1), (0, every(7, 0), 0))
        self.assertEqual(parts_of(course(up, player, 0, -FAR)), ("on", 0, 0, -FAR, 1, 1))
        bend = Book((0,), (Move(0, (("least", 4),), 2, 0), Move(0, (), 1, 0)), ())
        self.assertEqual(parts_of(course(bend, (), 0, -FAR)), ("on", FAR + 4, 0, 4, 1, 2))
        once = Book((0,), (Move(0, (("is", 4),), 2, 0), Move(0, (), 1, 0)), ())
        self.assertEqual(parts_of(course(once, (), 0, -FAR)), ("on", FAR + 5, 0, 6, 1, 1))

    def test_as_nearer_by_a_common_multiple(self):
        # The courses from n and from n + many are alike till they come near, where both come alike again.
        chance = rng(381)
        seen = {}
        for number in range(150):
            sign = chance.choice([1, -1])
            book = falling_book(chance) if number % 3 else some_book(chance, 3, 9, 1)
            book = book if sign > 0 else mirrored(book)
            player = some_player(chance, book, 3)
            step = math.lcm(12, *[length for _, counts, _ in player for length in (len(counts.above), len(counts.below))])
            many = step * math.lcm(*range(1, 61)) * 10 ** 29
            place, n = chance.randrange(book.places), chance.randint(2000, 2100)
            near, far = course(book, player, place, sign * n), course(book, player, place, sign * (n + many))
            same = parts_of(near)[0::2] == parts_of(far)[0::2] and near.shift == far.shift
            if sign * near.n > 1000:
                self.assertEqual(parts_of(far), (near.kind, near.ahead, near.place, near.n + sign * many, near.period, near.shift))
                kind = "alike"
            else:
                _, states = walk_plainly(book, player, place, sign * n, 600)
                _, period, shift = on_plainly(states)
                self.assertEqual(many % shift, 0)
                ahead = near.ahead + period * many // abs(shift)
                self.assertEqual(parts_of(far), (near.kind, ahead, near.place, near.n, near.period, near.shift))
                self.assertTrue(same or near.ahead == 0)
                kind = near.kind
            seen[kind] = seen.get(kind, 0) + 1
            for turns in (0, 7, 400):
                behind = state_behind(book, player, place, sign * n, turns)
                lifted = None if behind is None else (behind[0], behind[1] + sign * many)
                self.assertEqual(state_behind(book, player, place, sign * (n + many), turns), lifted)
        self.assertGreater(min(seen[kind] for kind in ("alike", "first", "second", "on")), 5, seen)

    def test_states_behind_fit_the_outcome(self):
        chance = rng(382)
        for _ in range(120):
            book = some_book(chance, 4, 12, 0)
            player = some_player(chance, book, 4)
            place, n = chance.randrange(book.places), chance.choice([FAR, -FAR])
            told = course(book, player, place, n)
            self.assertEqual(state_behind(book, player, place, n, told.ahead), (told.place, told.n))
            if told.kind != "on":
                self.assertIsNone(state_behind(book, player, place, n, told.ahead + 1))
                continue
            for turns in (told.ahead, told.ahead + 1, told.ahead + 10 ** 58 + 3):
                behind, later = [state_behind(book, player, place, n, turns + more) for more in (0, told.period)]
                self.assertEqual(later, (behind[0], behind[1] + told.shift))
            if told.ahead > 0:
                behind, later = [state_behind(book, player, place, n, told.ahead - 1 + more) for more in (0, told.period)]
                self.assertNotEqual(later, (behind[0], behind[1] + told.shift))
            for turns in (10 ** 30, told.ahead // 2, told.ahead // 3 + 1):
                here = state_behind(book, player, place, n, turns)
                _, states = walk_plainly(book, player, *here, 20)
                self.assertEqual([state_behind(book, player, place, n, turns + more) for more in range(20)], states[:20])


class Sizes(unittest.TestCase):
    def test_up_and_down_by_a_long_period(self):
        # At place 0 up by one but where all the rows fail, then down at place 1 till 3.
        book = Book((0, 0), (Move(0, (), 1, 0), Move(0, (("rest", 1, 0),), 1, 1), Move(1, (("least", 4),), -1, 1),
                             Move(1, (), 1, 0)), ())
        player = [(0, ~every(length, 3), 0) for length in LENGTHS] + [(0, all_counts(), 1)]
        told = in_good_time(self, course, book, player, 0, 4)
        self.assertEqual(parts_of(told), ("on", 0, 0, 4, 2 * 27721, 0))
        far = in_good_time(self, course, book, player, 1, FAR)
        self.assertEqual(parts_of(far), ("on", FAR - 27724, 1, 27724, 2 * 27721, 0))
        self.assertEqual(in_good_time(self, state_behind, book, player, 1, FAR, FAR - 3 + 1 + 27720), (1, 27724))

    def test_all_places_and_rests_on_the_way(self):
        sides = [0, 1] * 6
        moves = [Move(p, (), -1 if p == 0 else 0, (p + 1) % 12) for p in range(12)]
        moves += [Move(p, (("rest", 6, p % 6),), -1, (p + 1) % 12) for p in range(12)]
        lengths = LENGTHS + (12, 10) + LENGTHS
        player = [(p, Rounds(p - 6, [k == 1 for k in range(length)], [True] * p, [k == 0 for k in range(length)]), p + 12)
                  for p, length in enumerate(lengths)]
        for begin in (FAR, -FAR):
            told = in_good_time(self, course, Book(sides, moves, ()), player, 0, begin)
            self.assertEqual(told.kind, "on")
            self.assertLess(told.shift, 0)
            behind = in_good_time(self, state_behind, Book(sides, moves, ()), player, 0, begin, told.ahead + 3 * told.period)
            self.assertEqual(behind, (told.place, told.n + 3 * told.shift))
        goal = Book(sides, moves, [Goal(p, (("is", -12),)) for p in range(12)])
        told = in_good_time(self, course, goal, player, 0, FAR)
        self.assertEqual((told.kind, told.n), ("first", -12))
        self.assertEqual(in_good_time(self, state_behind, goal, player, 0, FAR, told.ahead), (told.place, -12))
        self.assertIsNone(in_good_time(self, state_behind, goal, player, 0, FAR, told.ahead + 1))

    def test_random_players_of_the_greatest_size(self):
        chance = rng(383)
        for _ in range(25):
            moves = [Move(i % 12, chance.choice([(), (), (("rest", 3, 1),), (("not", 12),)]), chance.choice([-4, -2, -1, 1, 2]),
                          chance.randrange(12)) for i in range(60)]
            book = Book([0, 1] * 6, moves, ())
            player = []
            for length in LENGTHS + (12, 10) + LENGTHS:
                index = chance.randrange(60)
                rows = [[chance.random() < 0.8 for _ in range(length)] for _ in range(2)]
                player.append((moves[index].place, Rounds(chance.randint(-12, 12), rows[0], [], rows[1]), index))
            for begin in (FAR, -FAR):
                told = in_good_time(self, course, book, player, chance.randrange(12), begin)
                self.assertEqual(told.kind, "on")
                self.assertGreaterEqual(told.period, 1)

    def test_many_states_behind_far_away(self):
        book = Book((0,), (Move(0, (), -1, 0), Move(0, (), -1, 0)), ())
        player = [(0, some_rounds(rng(k)), k % 2) for k in range(4)] + [(0, every(length, 1), 1) for length in LENGTHS]
        begin = time.process_time()
        for turns in range(300):
            self.assertEqual(state_behind(book, player, 0, FAR, turns), (0, FAR - turns))
        self.assertLess(time.process_time() - begin, 20)


class Equal(unittest.TestCase):
    def test_outcomes(self):
        parts = ("on", 5, 0, 7, 2, 4)
        one = Outcome(*parts)
        self.assertEqual(parts_of(one), parts)
        self.assertTrue(one == Outcome(*parts))
        self.assertFalse(one != Outcome(*parts))
        for at in range(6):
            self.assertFalse(one == Outcome(*parts[:at], 9, *parts[at + 1:]))
            self.assertTrue(one != Outcome(*parts[:at], 9, *parts[at + 1:]))
        for other in (None, 0, "on", parts, at_least(0)):
            self.assertFalse(one == other)


if __name__ == "__main__":
    unittest.main()
