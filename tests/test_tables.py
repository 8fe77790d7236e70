"""[39], [40], [41]: steps, and what is forced ahead of a descent."""

import time
import unittest

from anylead.boards import Spot, board_of
from anylead.books import Book, Goal, Move
from anylead.errors import BadRow
from anylead.tables import flipped, forced, ranks_of, step
from helpers import FAR, NO_INTEGERS, NO_ROWS, raises, rng, rounds_plainly, some_small_books, step_plainly


def spot(side, level=(), down=(), up=(), is_goal=False):
    return Spot(side, is_goal, level, down, up, ())


def passed(chance, places, many):
    """A set of places passed in some way: in any order, with doubles, with what is none of so many board places."""
    row = list(places) + [chance.choice(list(places)) for _ in range(chance.randint(0, 2)) if places]
    row += [chance.choice([many, many, many + 1, 2 * many, FAR]) for _ in range(chance.randint(0, 2))]
    chance.shuffle(row)
    return chance.choice([tuple, list])(row)


class Steps(unittest.TestCase):
    row = (spot(0, (1,), (2,), (3,)), spot(1, (1,), (2,), (3,)), spot(0), spot(1), spot(0, is_goal=True),
           spot(1, (0,), (0,), (0,), True), spot(1, (2, 3)), spot(0, (2, 3)), spot(0, (), (5, 6)), spot(1, (), (), (7,)))

    def test_each_kind_of_place(self):
        self.assertEqual(step(self.row, (), (), ()), (3, 4, 5))
        self.assertEqual(step(self.row, (2,), (), ()), (0, 3, 4, 5))
        self.assertEqual(step(self.row, (), (1,), ()), (0, 3, 4, 5))
        self.assertEqual(step(self.row, (), (), (3,)), (0, 3, 4, 5))
        self.assertEqual(step(self.row, (2,), (1,), ()), (0, 3, 4, 5))
        self.assertEqual(step(self.row, (2,), (1,), (3,)), (0, 1, 3, 4, 5))
        self.assertEqual(step(self.row, (1, 3), (2, 3), (1, 2)), (3, 4, 5, 6, 7))
        self.assertEqual(step(self.row, (6,), (3,), (7,)), (3, 4, 5, 7, 8, 9))
        self.assertEqual(step(self.row, tuple(range(10)), tuple(range(10)), tuple(range(10))), (0, 1, 3, 4, 5, 6, 7, 8, 9))
        self.assertEqual(step((), (), (), ()), ())

    def test_rows_of_all_three_zones(self):
        chance = rng(411)
        for _, board in some_small_books(412, 25):
            for row in (board.above, board.below) + board.middle + (flipped(board.above),):
                for _ in range(6):
                    sets = [tuple(chance.sample(range(board.places), chance.randint(0, board.places))) for _ in range(3)]
                    told = step(row, *[passed(chance, places, board.places) for places in sets])
                    self.assertEqual(told, tuple(sorted(step_plainly(row, *sets))))
                    self.assertTrue(type(told) is tuple and all(type(place) is int for place in told))

    def test_bad_rows(self):
        good = (1, 2)
        bad = list(NO_ROWS) + [(item,) for item in NO_INTEGERS + (-1, -FAR)] + [[1, item] for item in NO_INTEGERS + (-1,)]
        for places in bad:
            raises(self, BadRow(places), step, self.row, places, None, None)
            raises(self, BadRow(places), step, self.row, good, places, None)
            raises(self, BadRow(places), step, self.row, list(good), good, places)
            raises(self, BadRow(places), forced, self.row, places)
            raises(self, BadRow(places), ranks_of, self.row, places)


class Flipped(unittest.TestCase):
    def test_down_and_up_change_places(self):
        for _, board in some_small_books(413, 25):
            for row in (board.above, board.below) + board.middle:
                told = flipped(row)
                self.assertTrue(type(told) is tuple and len(told) == len(row))
                for one, other in zip(row, told):
                    moves = tuple((index, -way, target) for index, way, target in one.moves)
                    self.assertEqual(other, Spot(one.side, one.is_goal, one.level, one.up, one.down, moves))
                self.assertEqual(flipped(told), tuple(row))
                self.assertEqual(flipped(list(row)), told)

    def test_steps_of_flipped_rows(self):
        self.assertEqual(step(flipped(Steps.row), (3,), (), (2,)), step(Steps.row, (2,), (), (3,)))


class Forced(unittest.TestCase):
    def test_against_all_sets_at_once(self):
        chance = rng(414)
        most = grown_late = 0
        for _, board in some_small_books(415, 120):
            for row in (board.above, flipped(board.below)):
                targets, rounds = rounds_plainly(row)
                most = max(most, len(rounds))
                for places in rounds[0]:
                    told = forced(row, passed(chance, sorted(places), board.places))
                    self.assertEqual(told, tuple(sorted(rounds[-1][places])))
                    ranks = ranks_of(row, passed(chance, sorted(places), board.places))
                    wanted = tuple(next((k for k, table in enumerate(rounds) if p in table[places]), None)
                                   for p in range(board.places))
                    self.assertEqual(ranks, wanted)
                    self.assertEqual([type(told), type(ranks)], [tuple, tuple])
                    numbers = sorted({rank for rank in ranks if rank is not None})
                    grown_late += numbers != list(range(1, len(numbers) + 1))
                    self.assertNotIn(0, numbers)
                others = [p for p in range(board.places) if p not in targets]
                self.assertEqual(forced(row, others + sorted(targets)[:1]), forced(row, sorted(targets)[:1]))
        self.assertGreater(most, 8)
        self.assertGreater(grown_late, 0)

    def test_rows_by_chance(self):
        chance = rng(416)
        for _ in range(150):
            many = chance.randint(3, 7)
            aims = chance.sample(range(many), chance.randint(1, 3))
            row = [Spot(chance.randint(0, 1), chance.random() < 0.1,
                        sorted(chance.sample(range(many), chance.choice([0, 1, 1, 2]))),
                        sorted(chance.sample(aims, chance.choice([0, 0, 1]))),
                        sorted(chance.sample(range(many), chance.choice([0, 0, 1, 1, 2]))), ()) for _ in range(many)]
            _, rounds = rounds_plainly(row)
            for places in rounds[0]:
                self.assertEqual(forced(row, sorted(places)), tuple(sorted(rounds[-1][places])))
                self.assertEqual(ranks_of(tuple(row), sorted(places)), tuple(
                    next((k for k, table in enumerate(rounds) if p in table[places]), None) for p in range(many)))

    def test_an_excursion_up_that_comes_back(self):
        # 0 goes up to 1, 1 down to 2, and 2 down to 3: so from 0 a descent into 3 takes an excursion.
        row = (spot(0, up=(1,)), spot(0, down=(2,)), spot(0, down=(3,)), spot(0))
        self.assertEqual(forced(row, (3,)), (0, 2))
        self.assertEqual(ranks_of(row, (3,)), (2, None, 1, None))
        self.assertEqual(forced(row, (2,)), (1,))
        self.assertEqual(ranks_of(row, (2, 3)), (2, 1, 1, None))
        self.assertEqual(ranks_of(row, ()), (None,) * 4)
        # SECOND goes up to 1 or along to 2, and must go where both come down well.
        row = (spot(1, level=(2,), up=(1,)), spot(0, down=(2,)), spot(0, down=(3,)), spot(1), spot(1, is_goal=True))
        self.assertEqual(ranks_of(row, (3,)), (2, None, 1, 1, 1))
        self.assertEqual(ranks_of(row, ()), (None, None, None, 1, 1))

    def test_a_descent_into_a_goal_or_not(self):
        goal_below = (spot(0, down=(1,)), spot(0, is_goal=True))
        self.assertEqual(forced(goal_below, ()), (1,))
        self.assertEqual(forced(goal_below, (1,)), (0, 1))

    def test_the_greatest_sizes(self):
        chance = rng(417)
        begin = time.process_time()
        for _ in range(25):
            many = chance.choice([40, 150])
            row = []
            for place in range(many):
                ahead = chance.randrange(max(1, place - 3), place + 1) if place else 0
                row.append(Spot(chance.randint(0, 1), chance.random() < 0.01, (ahead,) if chance.random() < 0.8 else (),
                                (chance.randrange(10),) if place % 4 == 0 or chance.random() < 0.1 else (),
                                (chance.randrange(many),) if chance.random() < 0.5 else (), ()))
            everything = forced(row, tuple(range(10)))
            for places in ((), (0,), (1, 4, 7), (9, 8, 7, 6, 5), tuple(range(9))):
                told, ranks = forced(row, places), ranks_of(row, places)
                self.assertEqual(told, tuple(p for p in range(many) if ranks[p] is not None))
                self.assertLessEqual(set(told), set(everything))
                cut = [p for p in told if p < 10]
                self.assertEqual(told, step(row, places, told, forced(row, cut)))
        self.assertLess(time.process_time() - begin, 30)

    def test_long_ways_with_many_sets(self):
        # Ten lines of ten places, at whose beginnings the moves lead down to the first line; from the middle of a
        # line a move leads up into the next one, from which the play comes back to the first line.
        row = [Spot(0, False, (place - 1,) if place % 10 else (), (place // 10,) if place % 10 == 0 else (),
                    (place + 10,) if place % 10 == 5 and place < 90 else (), ()) for place in range(100)]
        begin = time.process_time()
        for many in range(11):
            told = forced(row, tuple(range(many)))
            self.assertEqual(told, tuple(p for p in range(100) if p // 10 < many or (many and p % 10 >= 5 and p < 90)))
            self.assertEqual(ranks_of(row, tuple(range(many)))[:10], tuple(range(1, 11)) if many else (None,) * 10)
        self.assertLess(time.process_time() - begin, 30)


class Descents(unittest.TestCase):
    def test_by_plays_that_are_followed(self):
        # [40]: from a level far up, the game in which a play ends when it comes to the level below.
        for book, board in some_small_books(418, 30, 12, 3):
            targets, rounds = rounds_plainly(board.above)
            for places in rounds[0]:
                won = descents_plainly(board, places, 9)
                lost_late = descents_plainly(board, places, 9, True)
                told = set(forced(board.above, sorted(places)))
                self.assertLessEqual(won, told)
                self.assertLessEqual(told, lost_late)


def descents_plainly(board, places, high, beyond=False):
    """The places of level 0 from which FIRST forces a goal or a descent into the set, levels above high being
    won or lost."""
    won = set()
    while True:
        found = set(won)
        for level in range(high + 1):
            for place, spot_here in enumerate(board.above):
                good = [(level - 1, q) in won if level else q in places for q in spot_here.down]
                good += [(level, q) in won for q in spot_here.level]
                good += [(level + 1, q) in won or (beyond and level == high) for q in spot_here.up]
                if spot_here.is_goal or (any(good) if spot_here.side == 0 else all(good)):
                    found.add((level, place))
        if found == won:
            return {place for level, place in won if level == 0}
        won = found


class Boards(unittest.TestCase):
    def test_a_row_of_a_book(self):
        book = Book((0, 1), (Move(0, (), -1, 1), Move(1, (), 1, 0), Move(1, (), -1, 0)), (Goal(0, (("is", 0),)),))
        row = board_of(book).above
        self.assertEqual(forced(row, (0, 1)), (0,))
        self.assertEqual(ranks_of(row, (1,)), (1, None))


if __name__ == "__main__":
    unittest.main()
