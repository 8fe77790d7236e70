"""[66] to [73]: questions for all counts."""

import time
import unittest
from math import gcd

from anylead.boards import board_of
from anylead.books import Book, Goal, Move, beside, lifted, mirrored, numbered, without
from anylead.errors import BadNumber, BadPlace, NoMove, TooMany, Unlike
from anylead.questions import (Lasting, apart, behind, changed, good_at, handicap, lasting, lone_at, needless, never_good, shares,
                               slips_at, squeezed)
from anylead.rounds import Rounds, all_counts, at_least, at_most, every, just, none
from anylead.roundsums import shifts
from anylead.winners import winners_at
from helpers import (FAR, NO_INTEGERS, goal_plainly, holds_plainly, late_books, late_ring_book, open_plainly, raises, rings_book, rng, some_book, some_small_books,
                     taking_book)
from test_papers import EXCURSION, TOO_GREAT

COUNTS = list(range(-30, 31)) + [FAR + by for by in range(12)] + [-FAR - by for by in range(12)]
DOUBLED = Book((0, 1), (Move(0, (("least", 1),), -1, 1), Move(0, (("least", 1),), -1, 1), Move(0, (), 5, 0), Move(1, (("least", 1),), -1, 0),
                        Move(0, (("is", 3), ("is", 4)), 1, 1), Move(0, (("is", 1),), 1, 1)), (Goal(0, (("is", 4),)),))
ENDLESS = (0, 1, Book((0, 0), (Move(0, (("rest", 7, 0),), 1, 0),), (Goal(1, (("rest", 19, 0),)),)))


def books(seed, many):
    return [DOUBLED, EXCURSION, taking_book((1, 2)), late_ring_book(), mirrored(late_ring_book())] + late_books(seed, many // 4) + [book for book, _ in some_small_books(seed, many, 14, 5)]


def wins_of(book):
    """W of all places."""
    return [winners_at(book, place) for place in range(book.places)]


def judged(book, wins, index, n):
    """[66]: None if the state is a goal, the move isn't open, or its mover hasn't the wish; otherwise whether it is good."""
    move = book.moves[index]
    first = book.sides[move.place] == 0
    if goal_plainly(book, move.place, n) or not holds_plainly(move.conditions, n) or (n in wins[move.place]) != first:
        return None
    return (n + move.shift in wins[move.target]) == first


class Moves(unittest.TestCase):
    def test_good_moves_and_slips(self):
        seen = {}
        for book in books(661, 60):
            wins = wins_of(book)
            goods = []
            for index in range(len(book.moves)):
                good, slips = good_at(book, index), slips_at(book, index)
                self.assertTrue(type(good) is type(slips) is Rounds)
                for n in COUNTS:
                    wanted = judged(book, wins, index, n)
                    seen[wanted] = seen.get(wanted, 0) + 1
                    self.assertIs(n in good, wanted is True)
                    self.assertIs(n in slips, wanted is False)
                goods.append(good)
            self.assertEqual(never_good(book), tuple(i for i, good in enumerate(goods) if not good))
            for place in range(book.places):
                lone = lone_at(book, place)
                self.assertIs(type(lone), Rounds)
                for n in COUNTS:
                    many = sum(n in goods[i] for i in open_plainly(book, place, n))
                    self.assertIs(n in lone, many == 1)
                    mine = (n in wins[place]) == (book.sides[place] == 0)
                    ended = goal_plainly(book, place, n) or not open_plainly(book, place, n)
                    self.assertTrue(many > 0 or not mine or ended)
        self.assertGreater(min(seen.values()), 600, seen)

    def test_moves_that_come_twice(self):
        self.assertTrue(good_at(DOUBLED, 0) == good_at(DOUBLED, 1))
        self.assertTrue(good_at(DOUBLED, 0))
        self.assertFalse(lone_at(DOUBLED, 0) & good_at(DOUBLED, 0))
        self.assertIn(4, never_good(DOUBLED))
        self.assertNotIn(0, never_good(DOUBLED))
        self.assertNotIn(4, good_at(DOUBLED, 0))

    def test_games_of_taking(self):
        book = taking_book((1, 2, 3))
        for index, many in enumerate((1, 2, 3)):
            self.assertTrue(good_at(book, index) == every(4, many) & at_least(many))
            self.assertTrue(slips_at(book, index) == at_least(many) - every(4, 0) - every(4, many))
            self.assertTrue(good_at(book, index + 3) == good_at(book, index))
        self.assertTrue(lone_at(book, 0) == at_least(1) - every(4, 0))
        self.assertEqual(never_good(book), ())

    def test_errors(self):
        for call in (good_at, slips_at):
            for index in NO_INTEGERS + (-1, 1, FAR):
                raises(self, NoMove(index), call, TOO_GREAT, index)
            raises(self, TooMany("places", 150), call, TOO_GREAT, 0)
        for call in (lone_at, lasting, shares):
            for place in NO_INTEGERS + (-1, 2, FAR):
                raises(self, BadPlace(place), call, TOO_GREAT, place)
            raises(self, TooMany("places", 150), call, TOO_GREAT, 0)
        raises(self, TooMany("places", 150), never_good, TOO_GREAT)
        raises(self, TooMany("places", 150), needless, TOO_GREAT)


def goal_book(*rows):
    """One place, where just the goals are won."""
    return Book((0,), (), [Goal(0, row) for row in rows])


class FarOut(unittest.TestCase):
    def test_lasting_where_it_is_known(self):
        for rows, below, above in (((), (1, None), (1, None)), (((),), (0, None), (0, None)),
                                   (((("least", 3),),), (1, 2), (0, 3)), (((("most", -4),),), (0, -4), (1, -3)),
                                   (((("is", 5),),), (1, 4), (1, 6)), (((("not", 5),),), (0, 4), (0, 6)),
                                   (((("rest", 2, 1),),), None, None), (((("rest", 2, 0), ("least", 0)),), (1, -1), None),
                                   (((("most", -1),), (("rest", 2, 0),)), (0, 0), None),
                                   (((("most", 4),), (("rest", 3, 2), ("least", 4))), (0, 5), None),
                                   (((("rest", 3, 0), ("most", 6)), (("least", 6),)), None, (0, 6)),
                                   (((("rest", 3, 0), ("most", 6)), (("least", 7),)), None, (0, 6)),
                                   (((("rest", 3, 1), ("most", 6)),), None, (1, 5))):
            told = lasting(goal_book(*rows), 0)
            self.assertIs(type(told), Lasting)
            self.assertEqual((told.below, told.above), (below, above), rows)

    def test_lasting_and_shares_by_many_counts(self):
        kinds = set()
        for book in books(681, 120) + [rings_book()]:
            for place in range(book.places):
                counts = winners_at(book, place)
                told = lasting(book, place)
                for pair, way in ((told.below, -1), (told.above, 1)):
                    row = [n in counts for n in range(0, way * 400, way)][100:]
                    if pair is None:
                        self.assertTrue(True in row[-60:] and False in row[-60:])
                        kinds.add((way, None))
                        continue
                    side, start = pair
                    self.assertTrue(type(pair) is tuple and type(side) is int)
                    self.assertEqual(set(row), {side == 0})
                    kinds.add((way, side, start is None))
                    if start is None:
                        self.assertTrue(counts == (none() if side else all_counts()))
                    else:
                        self.assertEqual({n in counts for n in range(start, start + way * 200, way)}, {side == 0})
                        self.assertIs(start - way in counts, side == 1)
                below, above = shares(book, place)
                period = len(counts.below) * len(counts.above)
                for (top, bottom), low in ((below, -10 ** 4 - period), (above, 10 ** 4)):
                    self.assertTrue(bottom > 0 and gcd(top, bottom) == 1 and type(top) is type(bottom) is int)
                    self.assertEqual(top * period, bottom * counts.many(low, low + period - 1))
        self.assertEqual(len(kinds), 10, kinds)

    def test_shares_where_they_are_known(self):
        self.assertEqual(shares(goal_book(), 0), ((0, 1), (0, 1)))
        self.assertEqual(shares(goal_book(()), 0), ((1, 1), (1, 1)))
        self.assertEqual(shares(goal_book((("least", 9),)), 0), ((0, 1), (1, 1)))
        self.assertEqual(shares(goal_book((("rest", 4, 1), ("most", 0)), (("rest", 4, 3), ("most", 0)), (("rest", 6, 4),)), 0),
                         ((2, 3), (1, 6)))
        self.assertEqual(shares(taking_book((1, 2, 3)), 0), ((0, 1), (3, 4)))

    def test_lists_in_a_lasting_made_by_hand(self):
        told = Lasting([0, [3]], None)
        self.assertEqual((told.below, told.above), ((0, (3,)), None))
        self.assertTrue(told == told and not told == Lasting([0, [3]], None))


class TwoPlaces(unittest.TestCase):
    def test_apart_and_behind(self):
        seen = set()
        made = books(691, 40)
        for book, other in zip(made, made[1:] + made[:1]):
            for one, place, another, other_place in [(book, p, book, q) for p in range(book.places) for q in range(book.places)] + [
                    (book, p, other, q) for p in range(book.places) for q in range(other.places)]:
                w, v = winners_at(one, place), winners_at(another, other_place)
                near = sorted(range(-300, 301), key=lambda n: (abs(n), n))
                wanted = next((n for n in near if (n in w) != (n in v)), None)
                self.assertEqual(apart(one, place, another, other_place), wanted)
                if wanted is None:
                    self.assertTrue(w == v)
                wanted = next((n for n in near if n in w and n not in v), None)
                self.assertEqual(behind(one, place, another, other_place), wanted)
                self.assertTrue(wanted is not None or w.within(v))
                seen.add(wanted is None or (wanted > 0) - (wanted < 0))
        self.assertEqual(seen, {True, -1, 0, 1})

    def test_the_lesser_of_two(self):
        book = goal_book((("is", -3),), (("is", 3),))
        self.assertEqual(apart(book, 0, goal_book(), 0), -3)
        self.assertEqual(apart(goal_book(), 0, book, 0), -3)
        self.assertEqual(behind(book, 0, goal_book(), 0), -3)
        self.assertIsNone(behind(goal_book(), 0, book, 0))
        self.assertEqual(behind(book, 0, goal_book((("is", -3),)), 0), 3)

    def test_handicap(self):
        everything, nothing, up = goal_book(()), goal_book(), goal_book((("least", 0),))
        self.assertEqual(handicap(nothing, 0, nothing, 0), 0)
        self.assertEqual(handicap(nothing, 0, everything, 0), 0)
        self.assertEqual(handicap(everything, 0, everything, 0), 0)
        self.assertIsNone(handicap(up, 0, nothing, 0))
        self.assertIsNone(handicap(everything, 0, up, 0))
        self.assertEqual(handicap(up, 0, lifted(up, 12), 0), 12)
        self.assertEqual(handicap(up, 0, lifted(up, -12), 0), 0)
        self.assertEqual(handicap(goal_book((("rest", 6, 1),)), 0, goal_book((("rest", 3, 0),)), 0), 2)
        self.assertEqual(handicap(goal_book((("most", 0),)), 0, goal_book((("most", 5),)), 0), 0)
        self.assertIsNone(handicap(goal_book((("rest", 2, 0),)), 0, goal_book((("rest", 3, 0),)), 0))
        self.assertIsNone(handicap(goal_book((("is", 5),)), 0, goal_book((("is", 3),)), 0))
        self.assertEqual(handicap(goal_book((("is", -40),)), 0, goal_book((("is", 33),)), 0), 73)
        seen = set()
        made = books(692, 40)
        made += [lifted(book, by) for book, by in zip(made, [1, 2, 3, 4] * 9)]
        for book, other in list(zip(made, made[1:])) + list(zip(made, made[43:])):
            for place in range(book.places):
                for other_place in range(other.places):
                    told = handicap(book, place, other, other_place)
                    w, v = winners_at(book, place), winners_at(other, other_place)
                    found = shifts(w, v)
                    self.assertEqual(told, next((d for d in range(200) if d in found), None))
                    if told is not None:
                        self.assertTrue(w.moved(told).within(v))
                        self.assertFalse(any(w.moved(d).within(v) for d in range(told)))
                    seen.add(told if told is None else min(told, 2))
        self.assertEqual(seen, {None, 0, 1, 2})

    def test_too_many(self):
        one = Book((0,), (), [Goal(0, (("rest", 149, 0), ("most", 0))), Goal(0, (("rest", 2, 0),))][:1])
        other = Book((0,), (), (Goal(0, (("rest", 139, 0),)),))
        third = goal_book((("rest", 3, 0),))
        for call in (apart, behind, handicap):
            raises(self, TooMany("period", 20000), call, one, 0, other, 0)
            raises(self, TooMany("places", 150), call, TOO_GREAT, 0, third, 0)
            raises(self, TooMany("places", 150), call, third, 0, TOO_GREAT, 0)
            for place in NO_INTEGERS + (-1, 2):
                raises(self, BadPlace(place), call, TOO_GREAT, place, TOO_GREAT, None)
                raises(self, BadPlace(place), call, TOO_GREAT, 1, TOO_GREAT, place)
        raises(self, TooMany("period", 20000), changed, one, other)
        raises(self, TooMany("places", 150), changed, Book((0, 0), (), ()), TOO_GREAT)
        far = goal_book((("is", 30000),))
        for call in (apart, behind):
            raises(self, TooMany("middle", 20000), call, far, 0, goal_book((("is", 0),)), 0)
        raises(self, TooMany("middle", 20000), changed, far, goal_book((("is", 0),)))


class WhoMustMove(unittest.TestCase):
    def test_squeezed(self):
        many = 0
        for book in books(701, 80):
            wins = wins_of(book)
            for place in range(book.places):
                for other_place in range(book.places):
                    if (book.sides[place], book.sides[other_place]) != (0, 1):
                        raises(self, Unlike("sides"), squeezed, book, place, other_place)
                        continue
                    told = squeezed(book, place, other_place)
                    for n in COUNTS:
                        wanted = (not goal_plainly(book, place, n) and not goal_plainly(book, other_place, n)
                                  and n not in wins[place] and n in wins[other_place])
                        self.assertIs(n in told, wanted)
                        many += wanted
        self.assertGreater(many, 200)

    def test_games_of_taking(self):
        self.assertTrue(squeezed(taking_book((1, 2, 3)), 0, 1) == every(4, 0) & at_least(0) | at_most(-1))

    def test_errors(self):
        for place in NO_INTEGERS + (-1, 2):
            raises(self, BadPlace(place), squeezed, TOO_GREAT, place, None)
            raises(self, BadPlace(place), squeezed, TOO_GREAT, 1, place)
        for pair in ((0, 0), (1, 1), (1, 0)):
            raises(self, Unlike("sides"), squeezed, TOO_GREAT, *pair)
        raises(self, TooMany("places", 150), squeezed, TOO_GREAT, 0, 1)


class TwoBooks(unittest.TestCase):
    def test_changed(self):
        chance = rng(711)
        seen = {"gained": 0, "lost": 0}
        for book in books(712, 60):
            move = Move(chance.randrange(book.places), (), chance.randint(-2, 2), chance.randrange(book.places))
            goal = Goal(chance.randrange(book.places), (("is", chance.randint(-3, 3)),))
            at = chance.randrange(book.places)
            turned = book.sides[:at] + (1 - book.sides[at],) + book.sides[at + 1:]
            more = Book(book.sides, book.moves + (move,), book.goals)
            goals = Book(book.sides, book.moves, book.goals + (goal,))
            for other in (more, goals, Book(turned, book.moves, book.goals), book):
                told = changed(book, other)
                self.assertTrue(type(told) is tuple and len(told) == book.places and all(type(pair) is tuple for pair in told))
                for place, (gained, lost) in enumerate(told):
                    w, v = winners_at(book, place), winners_at(other, place)
                    self.assertTrue(gained == v - w and lost == w - v)
                    seen["gained"] += bool(gained)
                    seen["lost"] += bool(lost)
            if book.sides[move.place] == 0:
                self.assertFalse(any(lost for _, lost in changed(book, more)))
            else:
                self.assertFalse(any(gained for gained, _ in changed(book, more)))
            self.assertFalse(any(lost for _, lost in changed(book, goals)))
        self.assertGreater(min(seen.values()), 20)
        for other in (Book((0,), (), ()), Book((0, 1, 1), (), ())):
            raises(self, Unlike("places"), changed, TOO_GREAT, other)
            raises(self, Unlike("places"), changed, other, TOO_GREAT)

    def test_needless(self):
        many = {}
        for book in books(713, 50):
            wins = wins_of(book)
            told = needless(book)
            self.assertEqual(told, tuple(i for i in range(len(book.moves)) if wins_of(without(book, i)) == wins))
            self.assertLessEqual(set(never_good(book)), set(told))
            many[len(told) < len(book.moves)] = many.get(len(told) < len(book.moves), 0) + 1
        self.assertGreater(min(many.values()), 10)
        self.assertTrue({0, 1} <= set(needless(DOUBLED)) and good_at(DOUBLED, 0))
        self.assertFalse(wins_of(without(without(DOUBLED, 1), 0)) == wins_of(DOUBLED))

    def test_books_made_of_others(self):
        chance = rng(714)
        made = [book for book in books(715, 40) if book.moves]
        for book, other in zip(made, made[1:]):
            by = chance.choice([-7, 3, 10])
            high, mirror = lifted(book, by), mirrored(book)
            index = chance.randrange(len(book.moves))
            for call in (good_at, slips_at):
                self.assertTrue(call(high, index) == call(book, index).moved(by))
                self.assertTrue(call(mirror, index) == -call(book, index))
            for place in range(book.places):
                self.assertTrue(lone_at(high, place) == lone_at(book, place).moved(by))
                self.assertTrue(lone_at(mirror, place) == -lone_at(book, place))
                self.assertEqual(shares(high, place), shares(book, place))
                self.assertEqual(shares(mirror, place), shares(book, place)[::-1])
                one, turned, moved = lasting(book, place), lasting(mirror, place), lasting(high, place)
                for pair, other_pair, high_pair in ((one.below, turned.above, moved.below), (one.above, turned.below, moved.above)):
                    start = None if pair is None else pair[1]
                    self.assertEqual(other_pair, None if pair is None else (pair[0], None if start is None else -start))
                    self.assertEqual(high_pair, None if pair is None else (pair[0], None if start is None else start + by))
            self.assertEqual(needless(mirror), needless(book))
            both = beside(book, other)
            order = list(range(both.places))
            chance.shuffle(order)
            mixed = numbered(both, order)
            for place in range(both.places):
                single, at = (book, place) if place < book.places else (other, place - book.places)
                self.assertIsNone(apart(both, place, single, at))
                self.assertIsNone(apart(mixed, order[place], single, at))


class Sizes(unittest.TestCase):
    def test_books_of_the_greatest_size(self):
        chance = rng(731)
        begin = time.process_time()
        many = 0
        while many < 25:
            book = some_book(chance, 8, 24, 6)
            board = board_of(book) if book.places > 5 and len(book.moves) > 11 and book.places * 12 <= 150 else None
            if board is None or board.width > 6 or max(len(board.down_targets), len(board.up_targets)) > 10:
                continue
            many += 1
            for index in range(len(book.moves)):
                good_at(book, index)
                slips_at(book, index)
            never_good(book)
            for place in range(book.places):
                lone_at(book, place)
                lasting(book, place)
                changed(book, mirrored(book))
                apart(book, place, book, 0)
            needless(Book(book.sides, book.moves[:12], book.goals))
        self.assertLess(time.process_time() - begin, 60)

    def test_handicap_of_the_greatest_lengths(self):
        one = goal_book(*[(("rest", 24, r), ("least", 3)) for r in (0, 5, 7)], *[(("rest", 24, r), ("most", -3)) for r in (1, 2)])
        other = goal_book(*[(("rest", 24, r), ("least", -30)) for r in (0, 5, 7, 12, 19)], *[(("rest", 24, r), ("most", 0)) for r in range(20)])
        self.assertEqual(len(winners_at(one, 0).above), 24)
        begin = time.process_time()
        for book in (one, other, mirrored(one)):
            for another in (one, other, lifted(other, 11)):
                told = handicap(book, 0, another, 0)
                found = [d for d in range(80) if winners_at(book, 0).moved(d).within(winners_at(another, 0))]
                self.assertEqual(told, found[0] if found else None)
        self.assertLess(time.process_time() - begin, 30)


if __name__ == "__main__":
    unittest.main()
