"""[54] to [60]: plans that keep their side's wish."""

import functools
import time
import unittest

from anylead.boards import board_of
from anylead.books import Book, Goal, Move, mirrored
from anylead.errors import BadNumber, BadPlace, BadRow, NoMove, TooMany, Unlike
from anylead.papers import Ranks, is_outside, is_paper, paper, told_winners
from anylead.plans import Lead, Standing, Straight, Watch, plan, played
from anylead.players import answer, course
from anylead.plays import Play
from anylead.rounds import Rounds, all_counts
from anylead.tables import flipped, ranks_of
from anylead.winners import Winners, winners, winners_at
from helpers import (FAR, NO_INTEGERS, NO_ROWS, deep_book, error_of, goal_plainly, late_books, late_ring_book, open_plainly, raises,
                     rings_book, rng, some_book, some_player, some_small_books, taking_book, walk_plainly)
from paperhelpers import changed, numbers_for, other_forms, told_at, under
from test_papers import ALONE, EXCURSION, NO_GOALS, TOO_GREAT, VALUES

NEAR = list(range(-14, 15))
COUNTS = NEAR + [FAR + by for by in range(4)] + [-FAR - by for by in range(4)]
NO_INDICES = NO_INTEGERS + (-1, 99, FAR)


def books(seed, many):
    return list(ALONE) + [book for book, _ in some_small_books(seed, many, 12, 4)]


def thinned(book, told):
    """A right Paper without the Ranks that it can do without."""
    for name in ("above_ranks", "below_ranks"):
        for each in getattr(told, name):
            less = changed(told, **{name: [other for other in getattr(told, name) if other is not each]})
            if is_paper(book, less):
                told = less
    return told


def has_ended(book, place, n):
    return goal_plainly(book, place, n) or not open_plainly(book, place, n)


def good_plainly(book, board, told, standing):
    """[55]: for each good move of a standing the standing behind it."""
    place, n, pile = standing.place, standing.n, standing.pile
    number, level = board.at(place, n)
    if has_ended(book, place, n):
        return {}
    found = {}
    for index in open_plainly(book, place, n):
        move = book.moves[index]
        target, level_behind = board.at(move.target, n + move.shift)
        step = level_behind - level
        if board.first <= level <= board.last:
            rows = told.middle_numbers
            at = level - board.first
            k = rows[at][number]
            if 0 <= at + step < len(rows):
                good, behind = under(rows[at + step], target, k), ()
            else:
                ranks, aims = (told.above_ranks, board.down_targets) if step > 0 else (told.below_ranks, board.up_targets)
                promise = tuple(p for p in aims if under(rows[at], p, k))
                numbers = numbers_for(ranks, aims, promise)
                good, behind = numbers is not None and numbers[target] is not None, (promise,)
        else:
            way, ranks, aims = (1, told.above_ranks, board.down_targets) if level > board.last else (
                -1, told.below_ranks, board.up_targets)
            aim = pile[-1] if pile else tuple(p for p in told_at(board, told, level - way) if p in aims)
            numbers = numbers_for(ranks, aims, aim)
            k = numbers[number]
            if step == 0:
                good, behind = under(numbers, target, k), pile
            elif step == -way:
                good, behind = target in aim, pile[:-1]
            else:
                promise = tuple(p for p in aims if under(numbers, p, k))
                outer = numbers_for(ranks, aims, promise)
                good, behind = outer is not None and under(outer, target, k), pile + (promise,)
        if good:
            found[index] = (move.target, n + move.shift, behind)
    return found


def parts(standing):
    return standing.place, standing.n, standing.pile


class Standings(unittest.TestCase):
    def test_what_is_kept(self):
        self.assertEqual(parts(Standing(1, 2, [[0, 3], [4]])), (1, 2, ((0, 3), (4,))))
        self.assertEqual(parts(Standing([1], [2, [3]], None)), ((1,), (2, (3,)), None))
        self.assertTrue(Standing(1, 2, [[0]]) == Standing(1, 2, ((0,),)))
        for other in (Standing(2, 2, ((0,),)), Standing(1, 3, ((0,),)), Standing(1, 2, ()), (1, 2, ((0,),)), None):
            self.assertFalse(Standing(1, 2, ((0,),)) == other)

    def test_straight_keeps_what_it_is_given(self):
        one = Straight(1, 2, 3, 4, 5, 6)
        self.assertEqual((one.low, one.high, one.down_step, one.down_gain, one.up_step, one.up_gain), (1, 2, 3, 4, 5, 6))


class Leads(unittest.TestCase):
    def leads(self, seed, many):
        for book in books(seed, many) + [rings_book()]:
            told = paper(book)
            for right in (other_forms(book, told) if book.places < 10 else [told]):
                yield book, right, Lead(book, right)

    def test_begin(self):
        many = {True: 0, False: 0}
        for book, told, lead in self.leads(551, 12):
            self.assertIs(lead.book, book)
            self.assertEqual((lead.side, type(lead.side)), (0, int))
            board = board_of(book)
            borders = [edge + by for edge in (board.first * board.width, (board.last + 1) * board.width) for by in range(-3, 4)]
            for place in range(book.places):
                counts = winners_at(book, place)
                for n in COUNTS + borders:
                    many[n in counts] += 1
                    if n in counts:
                        self.assertEqual(parts(lead.begin(place, n)), (place, n, ()))
                        self.assertEqual(lead.enough(place, n), lead.left(lead.begin(place, n)))
                    else:
                        raises(self, Unlike("wish"), lead.begin, place, n)
                        raises(self, Unlike("wish"), lead.enough, place, n)
        self.assertGreater(min(many.values()), 900)

    def test_good_moves_and_piles(self):
        chance = rng(552)
        seen = {}
        for book, told, lead in self.leads(553, 40):
            for place in range(book.places):
                for n in chance.sample(COUNTS, 6):
                    if n in winners_at(book, place):
                        self.walk(chance, book, told, lead, lead.begin(place, n), seen)
        self.assertGreater(seen["piles"], 300)
        self.assertGreater(seen["ends"], 1000)
        self.assertGreater(seen["bad"], 300)

    def walk(self, chance, book, told, lead, standing, seen):
        board = board_of(book)
        for _ in range(12):
            left = lead.left(standing)
            self.assertIs(type(left), int)
            good = good_plainly(book, board, told, standing)
            is_open = [] if has_ended(book, standing.place, standing.n) else open_plainly(book, standing.place, standing.n)
            side = book.sides[standing.place]
            for index in list(range(len(book.moves))) + [NO_INDICES[len(good) % 3], -1, 99]:
                if type(index) is int and index in good:
                    behind = lead.told(standing, index)
                    self.assertEqual(parts(behind), good[index])
                    self.assertLessEqual(lead.left(behind), left - 1)
                else:
                    raises(self, NoMove(index), lead.told, standing, index)
                    seen["bad"] = seen.get("bad", 0) + (index in is_open)
            self.assertEqual(left == 0, not is_open)
            if not is_open or side == 1:
                raises(self, NoMove(None), lead.answer, standing)
                self.assertEqual(sorted(good), is_open)
            else:
                self.assertEqual(lead.answer(standing), min(good))
            seen["piles"] = seen.get("piles", 0) + (len(standing.pile) > 0)
            if not is_open:
                seen["ends"] = seen.get("ends", 0) + 1
                return
            self.assertGreaterEqual(left, 1)
            standing = lead.told(standing, chance.choice(sorted(good)))

    def test_piles_grow_and_are_taken_back_at_the_middle(self):
        lead = plan(EXCURSION, 0)
        board = board_of(EXCURSION)
        sizes = {}
        for n in list(range(-40, 41)) + [FAR, FAR + 1, -FAR, -FAR - 1]:
            if n not in winners_at(EXCURSION, 0):
                continue
            standing = lead.begin(0, n)
            for _ in range(200):
                level = board.at(standing.place, standing.n)[1]
                if lead.left(standing) == 0:
                    break
                behind = lead.told(standing, lead.answer(standing))
                step = board.at(behind.place, behind.n)[1] - level
                way = 1 if level > board.last else -1
                if board.first <= level <= board.last:
                    self.assertEqual(standing.pile, ())
                elif step == way:
                    self.assertEqual(behind.pile[:-1], standing.pile)
                elif step == -way:
                    self.assertEqual(behind.pile, standing.pile[:-1])
                else:
                    self.assertEqual(behind.pile, standing.pile)
                sizes[len(behind.pile)] = sizes.get(len(behind.pile), 0) + 1
                standing = behind
        self.assertGreater(sizes[1], 100)
        self.assertGreater(sizes[0], 1000)

    def test_deep_piles(self):
        chance = rng(555)
        depths = {}
        many = 0
        while many < 250:
            book = deep_book(chance)
            found = self.explored(book, Lead(book, paper(book)), paper(book), {})
            if max(found, default=0) < 2:
                continue
            many += 1
            forms = list(other_forms(book, paper(book)))
            thin = [thinned(book, forms[at]) for at in (0, 3)]
            for told in forms[1:5:chance.choice([1, 3])] + thin:
                self.explored(book, Lead(book, told), told, depths)
        self.assertGreater(min(depths.get(depth, 0) for depth in (0, 1, 2, 3)), 30, depths)

    def explored(self, book, lead, told, depths):
        """Looks at all standings that good moves lead to from near states, up to some number."""
        board, wins = board_of(book), [winners_at(book, place) for place in range(book.places)]
        todo = [lead.begin(place, n) for place in range(book.places) for n in (1, 2, 4, -1, -2, -5) if n in wins[place]]
        todo += [lead.begin(place, n) for place in range(book.places) for n in (FAR, -FAR) if n in wins[place]]
        seen = {}
        while todo and len(seen) < 150:
            standing = todo.pop(0)
            if parts(standing) in seen:
                continue
            seen[parts(standing)] = True
            depths[len(standing.pile)] = depths.get(len(standing.pile), 0) + 1
            left, good = lead.left(standing), good_plainly(book, board, told, standing)
            for index in open_plainly(book, standing.place, standing.n):
                if index not in good:
                    raises(self, NoMove(index), lead.told, standing, index)
                    continue
                behind = lead.told(standing, index)
                self.assertEqual(parts(behind), good[index])
                self.assertLess(lead.left(behind), left)
                todo.append(behind)
        return depths

    def test_whole_plays_against_all_moves(self):
        for book, told, lead in self.leads(554, 15):
            longest = longest_of(book, lead)
            for place in range(book.places):
                for n in range(-9, 10):
                    if n in winners_at(book, place) and lead.enough(place, n) <= 60:
                        self.assertLessEqual(longest(lead.begin(place, n)), lead.enough(place, n))

    def test_unlike_papers_begin_at_the_same_states(self):
        book = EXCURSION
        leads = [Lead(book, told) for told in other_forms(book, paper(book))]
        for place in range(book.places):
            for n in COUNTS:
                self.assertEqual(len({error_of(lead.begin, place, n) is None for lead in leads}), 1)

    def test_errors(self):
        told = paper(EXCURSION)
        lead = Lead(EXCURSION, told)
        for place in NO_INTEGERS + (-1, 4, FAR):
            raises(self, BadPlace(place), lead.begin, place, None)
            raises(self, BadPlace(place), lead.enough, place, None)
            raises(self, BadPlace(place), lead.straight, place)
        for n in NO_INTEGERS:
            raises(self, BadNumber("count", n), lead.begin, 0, n)
            raises(self, BadNumber("count", n), lead.enough, 0, n)
        for value in VALUES + (paper(rings_book()), winners(EXCURSION), changed(told, above_turn=9)):
            raises(self, Unlike("paper"), Lead, EXCURSION, value)
        raises(self, TooMany("places", 150), Lead, TOO_GREAT, told)


def longest_of(book, lead):
    """The function of standings that tells the most moves that FIRST's answers and all moves of SECOND take."""
    @functools.lru_cache(None)
    def told(place, n, pile):
        standing = Standing(place, n, pile)
        if has_ended(book, place, n):
            assert goal_plainly(book, place, n) or book.sides[place] == 1
            return 0
        indices = [lead.answer(standing)] if book.sides[place] == 0 else open_plainly(book, place, n)
        return 1 + max(told(*parts(lead.told(standing, index))) for index in indices)

    return lambda standing: told(*parts(standing))


def greater_winners(book):
    """Winners that tell more states than those of the book, from which SECOND can't be led into others."""
    board = board_of(book)
    for place in range(book.places):
        other = winners(Book(book.sides, book.moves, book.goals + (Goal(place, (("rest", 1, 0),)),)))
        if other.board.width == board.width and (other.board.first, other.board.last) == (board.first, board.last):
            yield Winners(board, other.middle, other.above, other.above_turn, other.below, other.below_turn)


class Watches(unittest.TestCase):
    def watches(self, seed, many):
        for book in books(seed, many) + [rings_book(), taking_book((1, 3, 4))]:
            yield book, winners(book), Watch(book, winners(book))
            told = told_winners(book, paper(book))
            later = Winners(told.board, told.middle, told.above * 2, told.above_turn, told.below + told.below[told.below_turn:],
                            told.below_turn)
            if is_outside(book, later):
                yield book, later, Watch(book, later)
            for sets in greater_winners(book):
                self.assertTrue(is_outside(book, sets))
                yield book, sets, Watch(book, sets)

    def test_begin_answer_and_told(self):
        chance = rng(561)
        seen = {"begun": 0, "refused": 0, "stuck": 0, "bad": 0}
        for book, sets, watch in self.watches(562, 60):
            self.assertIs(watch.book, book)
            self.assertEqual((watch.side, type(watch.side)), (1, int))
            for place in range(book.places):
                for n in chance.sample(COUNTS, 5):
                    if sets.wins(place, n):
                        raises(self, Unlike("wish"), watch.begin, place, n)
                        seen["refused"] += 1
                        continue
                    seen["begun"] += 1
                    self.walk(chance, book, sets, watch, watch.begin(place, n), seen)
        self.assertGreater(min(seen.values()), 50, seen)

    def walk(self, chance, book, sets, watch, standing, seen):
        for _ in range(8):
            place, n, pile = parts(standing)
            self.assertEqual(pile, ())
            self.assertFalse(sets.wins(place, n) or n in winners_at(book, place))
            is_open = open_plainly(book, place, n)
            good = [i for i in is_open if not sets.wins(book.moves[i].target, n + book.moves[i].shift)]
            if book.sides[place] == 0:
                self.assertEqual(good, is_open)
                raises(self, NoMove(None), watch.answer, standing)
            else:
                self.assertEqual(watch.answer(standing), good[0])
            for index in list(range(len(book.moves))) + list(NO_INDICES):
                if type(index) is int and index in good:
                    behind = (book.moves[index].target, n + book.moves[index].shift, ())
                    self.assertEqual(parts(watch.told(standing, index)), behind)
                else:
                    raises(self, NoMove(index), watch.told, standing, index)
                    seen["bad"] += index in is_open
            if not good:
                seen["stuck"] += 1
                return
            standing = watch.told(standing, chance.choice(good))

    def test_errors(self):
        one = winners(EXCURSION)
        watch = Watch(EXCURSION, one)
        for place in NO_INTEGERS + (-1, 4, FAR):
            raises(self, BadPlace(place), watch.begin, place, None)
        for n in NO_INTEGERS:
            raises(self, BadNumber("count", n), watch.begin, 0, n)
        empty = Winners(one.board, [()] * len(one.middle), ((),), 0, ((),), 0)
        for value in VALUES + (paper(EXCURSION), winners(rings_book()), empty):
            raises(self, Unlike("winners"), Watch, EXCURSION, value)
        raises(self, TooMany("places", 150), Watch, TOO_GREAT, one)


class Plans(unittest.TestCase):
    def test_plan(self):
        for book in books(563, 5):
            lead, watch = plan(book, 0), plan(book, 1)
            self.assertIs(type(lead), Lead)
            self.assertIs(type(watch), Watch)
            self.assertEqual((lead.side, watch.side), (0, 1))
            self.assertTrue(lead.book is book and watch.book is book)
            for place in range(book.places):
                for n in COUNTS:
                    wished = n in winners_at(book, place)
                    self.assertEqual(error_of(lead.begin, place, n) is None, wished)
                    self.assertEqual(error_of(watch.begin, place, n) is None, not wished)

    def test_errors(self):
        for side in NO_INTEGERS + (2, -1, FAR):
            raises(self, BadNumber("side", side), plan, EXCURSION, side)
            raises(self, BadNumber("side", side), plan, TOO_GREAT, side)
        for side in (0, 1):
            raises(self, TooMany("places", 150), plan, TOO_GREAT, side)


class StraightOut(unittest.TestCase):
    def test_far_out(self):
        chance = rng(571)
        gains = set()
        checked = 0
        for book in books(572, 40) + [rings_book(), late_ring_book(), mirrored(late_ring_book())] + late_books(573, 60):
            told = paper(book)
            forms = list(other_forms(book, told)) if book.places < 6 else [told]
            for right in forms:
                lead = Lead(book, right)
                for place in range(book.places):
                    one = lead.straight(place)
                    values = [one.low, one.high, one.down_step, one.down_gain, one.up_step, one.up_gain]
                    self.assertTrue(all(type(value) is int for value in values) and one.low <= one.high)
                    self.assertTrue(min(one.down_step, one.up_step) >= 1 and min(one.down_gain, one.up_gain) >= 0)
                    gains.add((one.down_gain > 0, one.up_gain > 0))
                    far = chance.randint(1, FAR)
                    for by in (1, 2, 3, chance.randint(4, 40), far):
                        checked += self.goes_on(lead, book, place, one.high + by, one.up_step, one.up_gain)
                        checked += self.goes_on(lead, book, place, one.low - by, -one.down_step, one.down_gain)
        self.assertGreater(len(gains), 2)
        self.assertGreater(checked, 1000)

    def goes_on(self, lead, book, place, n, step, gain):
        told = error_of(lead.begin, place, n) is None
        self.assertEqual(told, error_of(lead.begin, place, n + step) is None)
        if told and not has_ended(book, place, n):
            self.assertEqual(lead.enough(place, n + step), lead.enough(place, n) + gain)
            return True
        return False

    def test_nowhere_everywhere_and_by_turns(self):
        for book, place in ((NO_GOALS, 0), (EXCURSION, 0), (EXCURSION, 1), (rings_book(), 7), (taking_book((1, 2)), 0)):
            lead = plan(book, 0)
            one = lead.straight(place)
            self.assertTrue(one.low <= one.high)
            for n in range(one.high + 1, one.high + 40):
                self.goes_on(lead, book, place, n, one.up_step, one.up_gain)
            for n in range(one.low - 40, one.low):
                self.goes_on(lead, book, place, n, -one.down_step, one.down_gain)
        self.assertEqual(plan(rings_book(), 0).straight(0).up_gain % 30, 0)

    def test_turns_far_out_are_told_exactly(self):
        # FIRST goes down by one each turn, to the goal at 0.
        lead = plan(rings_book(), 0)
        for n in (0, 30, 60 * FAR):
            self.assertEqual(lead.enough(0, n), n)


class Played(unittest.TestCase):
    def played_plainly(self, lead, place, n, picks):
        book = lead.book
        standing = lead.begin(place, n)
        moves = []
        for item in picks:
            if has_ended(book, standing.place, standing.n):
                break
            choices = open_plainly(book, standing.place, standing.n)
            mine = book.sides[standing.place] == lead.side
            moves.append(lead.answer(standing) if mine else choices[item % len(choices)])
            standing = lead.told(standing, moves[-1])
        return moves

    def test_against_drawn_picks(self):
        chance = rng(581)
        ends = {}
        for book in books(582, 40) + [rings_book(), taking_book((1, 3, 4))]:
            for lead in (plan(book, 0), plan(book, 1)):
                for place in range(book.places):
                    for n in chance.sample(COUNTS, 4):
                        if error_of(lead.begin, place, n):
                            raises(self, Unlike("wish"), played, lead, place, n, None)
                            continue
                        picks = [chance.choice([chance.randint(0, 9), -chance.randint(1, 9), FAR, -FAR]) for _ in range(20)]
                        kept = list(picks)
                        told = played(lead, place, n, picks)
                        self.assertEqual(picks, kept)
                        self.assertIs(type(told), Play)
                        self.assertTrue(told == Play(book, place, n, self.played_plainly(lead, place, n, picks)))
                        self.assertTrue(played(lead, place, n, tuple(picks)) == told)
                        self.assertTrue(played(lead, place, n, ()) == Play(book, place, n, ()))
                        ends[lead.side, told.ended] = ends.get((lead.side, told.ended), 0) + 1
                        self.assertEqual(len(told.moves) < 20, len(told.moves) < 20 and told.ended is not None)
        self.assertGreater(ends[0, 0], 50)
        self.assertGreater(ends[1, None], 50)
        self.assertGreater(ends[1, 1], 10)
        self.assertNotIn((1, 0), ends)
        self.assertNotIn((0, 1), ends)

    def test_enough_picks(self):
        chance = rng(583)
        many = 0
        for book in books(584, 60) + [rings_book(), taking_book((1, 3, 4))]:
            lead = plan(book, 0)
            for place in range(book.places):
                for n in range(-20, 21):
                    if n in winners_at(book, place) and lead.enough(place, n) <= 400:
                        many += 1
                        picks = [chance.randint(-50, 50) for _ in range(lead.enough(place, n))]
                        self.assertEqual(played(lead, place, n, picks).ended, 0)
        self.assertGreater(many, 1000)

    def test_errors(self):
        for side, n in ((0, 1), (1, 0)):
            lead = plan(EXCURSION, side)
            raises(self, BadPlace(9), played, lead, 9, None, None)
            raises(self, BadNumber("count", "1"), played, lead, 0, "1", None)
            raises(self, Unlike("wish"), played, lead, 0, 1 - n, None)
            for picks in list(NO_ROWS) + [[value] for value in NO_INTEGERS] + [(1, 2, value) for value in NO_INTEGERS]:
                raises(self, BadRow(picks), played, lead, 0, n, picks)


class PlayersOfWatches(unittest.TestCase):
    def test_rows(self):
        many = 0
        for book in books(591, 40) + [rings_book(), taking_book((1, 3, 4)), late_ring_book(), mirrored(late_ring_book())] + late_books(594, 60):
            for sets in [winners(book)] + list(greater_winners(book)):
                watch = Watch(book, sets)
                rows = watch.player()
                self.assertIs(type(rows), tuple)
                self.assertTrue(all(type(row) is tuple and len(row) == 3 and type(row[1]) is Rounds for row in rows))
                self.assertEqual([(row[0], row[2]) for row in rows], sorted((row[0], row[2]) for row in rows))
                self.assertTrue(all(row[1] and book.sides[row[0]] == 1 for row in rows))
                counts_of = {(place, index): counts for place, counts, index in rows}
                self.assertEqual(len(counts_of), len(rows))
                for place in range(book.places):
                    for n in COUNTS:
                        answers = [i for i in range(len(book.moves)) if (place, i) in counts_of and n in counts_of[place, i]]
                        wanted = []
                        if book.sides[place] == 1 and not sets.wins(place, n):
                            wanted = [watch.answer(watch.begin(place, n))]
                        self.assertEqual(answers, wanted)
                        many += len(wanted)
        self.assertGreater(many, 1000)

    def test_courses(self):
        chance = rng(592)
        kinds = {}
        for book in books(593, 50) + [taking_book((1, 3, 4))]:
            watch = plan(book, 1)
            for _ in range(3):
                others = [row for row in some_player(chance, book, 6) if book.sides[row[0]] == 0]
                at = chance.randint(0, len(others))
                player = tuple(others[:at]) + watch.player() + tuple(others[at:])
                for place in range(book.places):
                    for n in chance.sample(COUNTS, 4):
                        if error_of(watch.begin, place, n) is None:
                            told = course(book, player, place, n)
                            kinds[told.kind] = kinds.get(told.kind, 0) + 1
                            ended, _ = walk_plainly(book, player, place, n, 30)
                            self.assertNotEqual(ended, "first")
        self.assertEqual(set(kinds), {"second", "on"})
        self.assertGreater(min(kinds.values()), 30)

    def test_what_the_rows_answer(self):
        book = taking_book((1, 2, 3))
        rows = plan(book, 1).player()
        for n in (1, 2, 3, 5, 6, 7, 10 ** 60 + 1):
            self.assertEqual(answer(book, rows, 1, n), n % 4 + 2)
        player = ((0, all_counts(), 0),) + rows
        self.assertEqual(course(book, player, 0, 10 ** 60).kind, "second")
        self.assertEqual(course(book, player, 0, 10 ** 60).ahead, 10 ** 60 // 2)


class Sizes(unittest.TestCase):
    def test_books_with_up_to_40_board_places(self):
        chance = rng(601)
        begin = time.process_time()
        many = 0
        while many < 40:
            book = some_book(chance, 12, 60, 6)
            board = board_of(book) if book.places * 12 <= 150 else None
            if board is None or not 20 <= board.places <= 40 or max(len(board.down_targets), len(board.up_targets)) > 10:
                continue
            many += 1
            lead, watch = plan(book, 0), plan(book, 1)
            rows = watch.player()
            for place in range(book.places):
                for n in (0, FAR, -FAR, 10 ** 60 - 1):
                    if error_of(lead.begin, place, n) is None:
                        self.assertNotEqual(played(lead, place, n, range_row(400)).ended, 1)
                        self.assertGreaterEqual(lead.enough(place, n), 0)
                    else:
                        self.assertNotEqual(played(watch, place, n, range_row(400)).ended, 0)
                        self.assertNotEqual(course(book, rows, place, n).kind, "first")
        self.assertLess(time.process_time() - begin, 60)

    def test_ranks_for_all_sets_of_ten_down_targets(self):
        book = rings_book()
        board, told = board_of(book), paper(book)
        sets = [tuple(place for place in range(10) if number >> place & 1) for number in range(1024)]
        great = changed(told, above_ranks=[Ranks(places, ranks_of(board.above, places)) for places in sets],
                        below_ranks=[Ranks((), ranks_of(flipped(board.below), ()))])
        begin = time.process_time()
        lead = Lead(book, great)
        self.assertEqual(lead.enough(0, 10 ** 60), 10 ** 60)
        self.assertEqual(len(played(lead, 0, 400, (0,) * 400).moves), 400)
        self.assertLess(time.process_time() - begin, 30)


def range_row(many):
    return list(range(-many // 2, many - many // 2))


if __name__ == "__main__":
    unittest.main()
