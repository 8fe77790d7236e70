"""[47] to [53]: papers that tell who can force the wish, and their judge."""

import time
import unittest

from anylead.boards import board_of
from anylead.books import Book, Goal, Move
from anylead.errors import TooMany, Unlike
from anylead.papers import Paper, Ranks, is_closed_step, is_outside, is_paper, paper, told_winners
from anylead.rounds import every
from anylead.tables import flipped, ranks_of
from anylead.winners import Winners, winners, winners_at
from helpers import FAR, error_of, raises, rings_book, rng, some_book, some_small_books, taking_book
from paperhelpers import (FIELDS, bent_papers, bent_sets, changed, fields_of, is_outside_plainly, is_right_plainly, other_forms,
                          steps_plainly, told_at)

TOO_GREAT = Book((0, 1), (Move(0, (("rest", 76, 0),), 1, 1),), ())
# FIRST goes round all places, 3 nearer to 0 each time; on the way it is 1 further away, at half of the counts one level.
EXCURSION = Book((0,) * 4, [Move(place, ((word, way),), way * shift, (place + 1) % 4) for word, way in (("least", 1), ("most", -1))
                            for place, shift in enumerate((1, -1, -1, -2))], (Goal(3, (("is", 0),)),))
NO_GOALS = Book((0, 1, 1), (Move(0, (), -1, 1), Move(1, (("rest", 2, 0),), 1, 0)), ())
FAR_GOAL = Book((0, 1), (Move(0, (), 1, 1), Move(1, (), 1, 0), Move(1, (("most", 3),), -1, 0)), (Goal(0, (("is", 12),)),))
EVERYWHERE = Book((0, 1), (Move(0, (), -1, 1), Move(1, (), -1, 0)), (Goal(0, ()),))
ALONE = (EXCURSION, NO_GOALS, FAR_GOAL, EVERYWHERE, taking_book((1, 2)), Book((0,), (), ()), Book((1,), (), ()))
VALUES = (None, 0, 1, True, 1.5, float("nan"), "paper", b"paper", (), [], {}, set(), object(), Paper, Ranks, Winners, range(3), iter(()),
          (1, 2, 3), [[0]], {0: 1}, EXCURSION, EXCURSION.moves[0], FAR, lambda: 0, Ranks((), ()), ValueError("x"))


def books(seed, many):
    return list(ALONE) + [book for book, _ in some_small_books(seed, many, 8, 3)]


class Right(unittest.TestCase):
    def test_what_paper_tells(self):
        for book in books(471, 120) + [rings_book()]:
            told = paper(book)
            self.assertIs(type(told), Paper)
            self.assertTrue(is_right_plainly(book, told))
            self.assertIs(is_paper(book, told), True)
            sets = told_winners(book, told)
            self.assertTrue(type(sets) is Winners and sets.board == board_of(book))
            wanted = winners(book)
            for level in range(wanted.board.first - 12, wanted.board.last + 13):
                self.assertEqual(sets.on(level), wanted.on(level))

    def test_papers_need_excursions(self):
        board = board_of(EXCURSION)
        self.assertTrue(any(spot.up for spot in board.above) and any(spot.down for spot in board.below))
        told = paper(EXCURSION)
        for ranks, row in ((told.above_ranks, board.above), (told.below_ranks, flipped(board.below))):
            late = [spot for each in ranks for spot, number in zip(row, each.numbers) if number is not None and spot.up]
            self.assertTrue(late)
        self.assertIs(is_paper(EXCURSION, told), True)
        self.assertTrue(all(told_at(board, told, level) for level in (-9, 9)))
        self.assertTrue(winners_at(EXCURSION, 0) == ~every(3, 0))

    def test_other_forms(self):
        many = 0
        for book in books(472, 60) + [rings_book()]:
            wanted = winners(book)
            for told in other_forms(book, paper(book)) if book.places < 10 else [paper(book)]:
                self.assertTrue(is_right_plainly(book, told))
                self.assertIs(is_paper(book, told), True)
                sets = told_winners(book, told)
                many += 1
                for level in range(wanted.board.first - 9, wanted.board.last + 10):
                    self.assertEqual(sets.on(level), wanted.on(level))
                self.assertEqual((sets.middle, sets.above, sets.above_turn, sets.below, sets.below_turn),
                                 tuple(fields_of(told).values())[:5])
        self.assertGreater(many, 300)

    def test_sets_that_come_round_later(self):
        book = rings_book()
        told = paper(book)
        later = changed(told, above=told.above + told.above[:7], above_turn=7)
        self.assertIs(is_paper(book, later), True)
        self.assertFalse(told_winners(book, later) == winners(book))
        self.assertTrue(all(told_winners(book, later).on(level) == winners(book).on(level) for level in range(-5, 99)))
        self.assertIs(is_paper(book, changed(told, above=told.above + told.above[:7], above_turn=6)), False)


class Bent(unittest.TestCase):
    def test_bent_at_one_place(self):
        found = {}
        for book in books(491, 14):
            told = paper(book)
            for other in bent_papers(book, told):
                wanted = is_right_plainly(book, other)
                self.assertIs(is_paper(book, other), wanted, {k: v for k, v in fields_of(other).items() if v != getattr(told, k)})
                names = [name for name in FIELDS if repr(getattr(other, name)) != repr(getattr(told, name))]
                if len(names) == 1:
                    found[names[0], wanted] = found.get((names[0], wanted), 0) + 1
        for name in FIELDS:
            self.assertGreater(found.get((name, False), 0), 30, (name, found))
        for name in ("middle_numbers", "above_ranks", "below_ranks"):
            self.assertGreater(found.get((name, True), 0), 30, (name, found))

    def test_bent_at_many_places_by_chance(self):
        chance = rng(492)
        right = 0
        for book in books(493, 60):
            told = paper(book)
            for _ in range(25):
                rows = []
                for numbers in told.middle_numbers:
                    rows.append([number if number is None or chance.random() < 0.7 else max(0, number + chance.randint(-1, 2))
                                 for number in numbers])
                ranks = []
                for each in told.above_ranks:
                    ranks.append(Ranks(each.places, [number if number is None or chance.random() < 0.8 else number + chance.randint(0, 1)
                                                     for number in each.numbers]))
                other = changed(told, middle_numbers=rows, above_ranks=ranks)
                wanted = is_right_plainly(book, other)
                right += wanted
                self.assertIs(is_paper(book, other), wanted)
        self.assertGreater(right, 50)

    def test_greater_and_smaller_sets_with_numbers(self):
        # A told set that is too great has no numbers that hold, one that is too small steps outside.
        for book in books(494, 40):
            board, told = board_of(book), paper(book)
            everything = tuple(range(board.places))
            numbers = [tuple(0 if spot.is_goal else 9 for spot in row) for row in board.middle]
            other = changed(told, middle=[everything] * len(board.middle), middle_numbers=numbers)
            self.assertIs(is_paper(book, other), is_right_plainly(book, other))
            nothing = changed(told, middle=[()] * len(board.middle), middle_numbers=[(None,) * board.places] * len(board.middle))
            self.assertIs(is_paper(book, nothing), is_right_plainly(book, nothing))

    def test_numbers_that_go_round(self):
        # Each place of a ring rests on the next one: no numbers hold, also if all are as great as can be.
        ring = Book((0, 0), (Move(0, (), 0, 1), Move(1, (), 0, 0)), ())
        told = paper(ring)
        self.assertEqual(told.middle, ((),))
        for numbers in ((1, 2), (2, 1), (1, 1), (0, 0), (FAR, FAR)):
            bent = changed(told, middle=((0, 1),), middle_numbers=(numbers,))
            self.assertIs(is_paper(ring, bent), False)
            above = changed(told, above_ranks=(Ranks((), numbers),), above=((0, 1),))
            self.assertIs(is_paper(ring, above), False)

    def test_papers_of_another_book(self):
        chance = rng(495)
        told = [(book, paper(book)) for book in books(496, 30)]
        for book, _ in told:
            for other, other_paper in chance.sample(told, 12):
                self.assertIs(is_paper(book, other_paper), is_right_plainly(book, other_paper))
        self.assertIs(is_paper(taking_book((1,)), paper(taking_book((1, 2)))), False)

    def test_values_of_any_kind(self):
        for book in (EXCURSION, rings_book(), Book((0,), (), ())):
            told = paper(book)
            fields = list(fields_of(told).values())
            for value in VALUES + (fields, tuple(fields), winners(book), board_of(book)):
                self.assertIs(is_paper(book, value), False)
                self.assertIs(is_paper(book, Paper(*[value] * 8)), False)
                for at in range(8):
                    made = Paper(*fields[:at], value, *fields[at + 1:])
                    self.assertIs(is_paper(book, made), is_right_plainly(book, made), (at, value))
                    made = Paper(*fields[:at], (value,), *fields[at + 1:])
                    self.assertIs(is_paper(book, made), is_right_plainly(book, made), (at, value))
                for ranks in (Ranks(value, value), Ranks((), value), Ranks(value, (None,) * board_of(book).places)):
                    for at in (6, 7):
                        made = Paper(*fields[:at], fields[at] + (ranks,), *fields[at + 1:])
                        self.assertIs(is_paper(book, made), is_right_plainly(book, made), (at, value))

    def test_lists_in_the_place_of_tuples(self):
        def listed(value):
            return [listed(item) for item in value] if isinstance(value, tuple) else value
        for book in (EXCURSION, rings_book()):
            told = paper(book)
            made = Paper(*[listed(value) for value in fields_of(told).values()])
            self.assertEqual(list(fields_of(made).values())[:6], list(fields_of(told).values())[:6])
            self.assertIs(is_paper(book, made), True)
            for name in FIELDS:
                if isinstance(getattr(told, name), tuple):
                    for value in (list(getattr(told, name)), tuple(list(item) if isinstance(item, tuple) else [item]
                                                                   for item in getattr(told, name))):
                        bent = changed(told)
                        setattr(bent, name, value)
                        self.assertIs(is_paper(book, bent), False, name)
            for name in ("places", "numbers"):
                ranks = Ranks(told.above_ranks[0].places, told.above_ranks[0].numbers)
                setattr(ranks, name, list(getattr(ranks, name)))
                self.assertIs(is_paper(book, changed(told, above_ranks=(ranks,) + told.above_ranks[1:])), False)


class Kept(unittest.TestCase):
    def test_ranks_and_papers_keep_what_they_are_given(self):
        ranks = Ranks([1, [2]], [None, [3]])
        self.assertEqual((ranks.places, ranks.numbers), ((1, (2,)), (None, (3,))))
        thing = object()
        self.assertEqual((Ranks(thing, "x").places, Ranks(thing, "x").numbers), (thing, "x"))
        told = Paper([[0], (1,)], [[]], 0, ([2],), True, [[None]], [ranks], None)
        self.assertEqual(list(fields_of(told).values()), [((0,), (1,)), ((),), 0, ((2,),), True, ((None,),), (ranks,), None])
        self.assertTrue(told == told and not told == Paper(*fields_of(told).values()))
        self.assertFalse(ranks == Ranks(ranks.places, ranks.numbers))


class Outside(unittest.TestCase):
    def told(self, book, value):
        self.assertIs(is_outside(book, value), is_outside_plainly(board_of(book), value))
        closed = is_outside_plainly(board_of(book), value) and all(found == own for found, own in steps_plainly(board_of(book), value))
        self.assertIs(is_closed_step(book, value), closed)
        return is_outside(book, value), is_closed_step(book, value)

    def test_winners_and_all_places(self):
        many = set()
        for book in books(511, 60) + [rings_book()]:
            board, one = board_of(book), winners(book)
            self.assertEqual(self.told(book, one), (True, True))
            self.assertEqual(self.told(book, told_winners(book, paper(book))), (True, True))
            everything = tuple(range(board.places))
            whole = Winners(board, [everything] * len(board.middle), [everything], 0, [everything], 0)
            many.add(self.told(book, whole))
        self.assertEqual(many, {(True, True), (True, False)})
        stuck = Book((0,), (), ())
        whole = Winners(board_of(stuck), ((0,),), ((0,),), 0, ((0,),), 0)
        self.assertEqual((is_outside(stuck, whole), is_closed_step(stuck, whole)), (True, False))

    def test_closed_sets_that_are_not_the_least(self):
        ring = Book((0, 0), (Move(0, (), 0, 1), Move(1, (), 0, 0)), ())
        one = Winners(board_of(ring), ((0, 1),), ((0, 1),), 0, ((0, 1),), 0)
        self.assertEqual((is_outside(ring, one), is_closed_step(ring, one)), (True, True))
        self.assertFalse(one == winners(ring))

    def test_sets_bent_at_one_level(self):
        found = set()
        for book in books(512, 25):
            board, one = board_of(book), winners(book)
            parts = [one.board, one.middle, one.above, one.above_turn, one.below, one.below_turn]
            for at in (1, 2, 4):
                for sets in bent_sets(parts[at], board.places):
                    found.add(self.told(book, Winners(*parts[:at], sets, *parts[at + 1:])))
            for at in (3, 5):
                for turn in (1, -1, True, False, None, "0", (0,), 0.0):
                    found.add(self.told(book, Winners(*parts[:at], turn, *parts[at + 1:])))
        self.assertEqual(found, {(True, True), (True, False), (False, False)})

    def test_other_boards_and_other_values(self):
        for book in (EXCURSION, taking_book((1, 2)), rings_book()):
            one = winners(book)
            parts = [one.board, one.middle, one.above, one.above_turn, one.below, one.below_turn]
            other = board_of(Book(book.sides[::-1], book.moves, book.goals + (Goal(0, (("is", 1),)),)))
            for judge in (is_outside, is_closed_step):
                self.assertIs(judge(book, Winners(other, *parts[1:])), False)
                for value in VALUES + (paper(book), one.board, parts, tuple(parts)):
                    self.assertIs(judge(book, value), False)
                    for at in range(6):
                        made = Winners(*parts[:at], value, *parts[at + 1:])
                        self.assertIs(judge(book, made), (at > 0 or value is one.board) and is_outside_plainly(one.board, made))
        again = Book(EXCURSION.sides, EXCURSION.moves, EXCURSION.goals + (Goal(3, (("is", 0), ("most", 0))),))
        self.assertIs(is_closed_step(again, winners(EXCURSION)), True)

    def test_lists_are_no_tuples(self):
        for name in ("middle", "above", "below"):
            for judge in (is_outside, is_closed_step):
                one = winners(EXCURSION)
                setattr(one, name, list(getattr(one, name)))
                self.assertIs(judge(EXCURSION, one), False)
                one = winners(EXCURSION)
                setattr(one, name, tuple(list(places) for places in getattr(one, name)))
                self.assertIs(judge(EXCURSION, one), False)


class Errors(unittest.TestCase):
    def test_too_many_places_go_ahead(self):
        told = paper(EXCURSION)
        raises(self, TooMany("places", 150), paper, TOO_GREAT)
        for call in (is_paper, told_winners, is_outside, is_closed_step):
            for value in (told, winners(EXCURSION), None, "paper", object()):
                raises(self, TooMany("places", 150), call, TOO_GREAT, value)

    def test_told_winners_of_what_is_not_right(self):
        told = paper(EXCURSION)
        self.assertIsNone(error_of(told_winners, EXCURSION, told))
        for value in VALUES + (paper(rings_book()), winners(EXCURSION), changed(told, above_turn=9), changed(told, above_ranks=())):
            raises(self, Unlike("paper"), told_winners, EXCURSION, value)


class Sizes(unittest.TestCase):
    def test_papers_of_books_with_up_to_40_board_places(self):
        chance = rng(531)
        begin = time.process_time()
        many = 0
        while many < 60:
            book = some_book(chance, 12, 60, 6)
            board = board_of(book) if book.places * 12 <= 150 else None
            if board is None or not 20 <= board.places <= 40 or max(len(board.down_targets), len(board.up_targets)) > 10:
                continue
            many += 1
            told = paper(book)
            self.assertIs(is_paper(book, told), True)
            self.assertTrue(is_right_plainly(book, told))
        self.assertLess(time.process_time() - begin, 60)

    def test_all_sets_of_ten_down_targets(self):
        book = rings_book()
        board, told = board_of(book), paper(book)
        sets = [tuple(place for place in range(10) if number >> place & 1) for number in range(1024)]
        begin = time.process_time()
        above = [Ranks(places, ranks_of(board.above, places)) for places in sets]
        great = changed(told, above_ranks=above)
        self.assertIs(is_paper(book, great), True)
        bent = above[:700] + [Ranks(above[700].places, [5] * 10)] + above[701:]
        self.assertIs(is_paper(book, changed(told, above_ranks=bent)), False)
        self.assertLess(time.process_time() - begin, 60)

    def test_papers_with_4000_numbers(self):
        book = rings_book()
        told = paper(book)
        begin = time.process_time()
        long = changed(told, above=told.above * 13)
        self.assertIs(is_paper(book, long), True)
        self.assertIs(is_paper(book, changed(long, above=long.above[:-1])), False)
        self.assertIs(is_paper(book, changed(told, above=[tuple(range(4000))])), False)
        self.assertIs(is_paper(book, changed(told, above_ranks=[Ranks((), range(4000)), Ranks((), tuple(range(4000)))])), False)
        self.assertIs(is_outside(book, Winners(board_of(book), told.middle, told.above * 13, 0, told.below, 0)), True)
        self.assertLess(time.process_time() - begin, 30)


if __name__ == "__main__":
    unittest.main()
