"""The whole program: one game in words, with its book, winners, plans, plays and promises; and [1], [2], [93], [94]."""

import copy
import itertools
import time
import unittest

from anylead.again import again_at, again_forced
from anylead.alike import is_alike, least_book
from anylead.boards import board_of
from anylead.books import Book, Goal, Move, is_goal, open_moves
from anylead.bounded import Window, least_turns
from anylead.desk import Desk
from anylead.errors import LeadError
from anylead.forcing import forces
from anylead.gamebooks import book_of, never_open, renamed
from anylead.games import game_of, game_text, place_of, standing_at, standings, state_of, state_text
from anylead.journal import mended, replayed
from anylead.meaning import instances, is_goal_at, moves_from
from anylead.papers import is_closed_step, is_outside, is_paper, paper, told_winners
from anylead.plans import Lead, Standing, Watch, plan, played
from anylead.players import course, goal_counts, open_counts, state_behind
from anylead.plays import Play, is_play, play_text, read_play
from anylead.questions import apart, good_at, handicap, lasting, lone_at, never_good, shares, slips_at, squeezed
from anylead.rounds import all_counts, between
from anylead.roundtexts import read_rounds
from anylead.winners import winners, winners_at
from deskhelpers import HEAT, STEPS, TEXTS
from helpers import FAR, error_of, rng, some_player

CLIMB = """game climb
piece mood is calm wild
part lower by
  when count least by
  then count less by
end
for k from 1 to 2
  first step
    when mood is calm
    use lower k
  end
end
first rage
  when mood is wild
  then count more 1
  then mood is calm
end
second tease
  when count rest 3 2
  then mood is wild
end
second wait
  when count least 1
  then count less 1
end
goal
  when count is 0
  when turn is second
end
"""
GAMES = tuple(game_of(text) for text in TEXTS + (CLIMB,))
COUNTS = list(range(-7, 14)) + [FAR + by for by in range(4)] + [-FAR - by for by in range(4)]


class OneGame(unittest.TestCase):
    def test_game_book_and_winners_tell_the_same(self):
        told = {True: 0, False: 0}
        for game in GAMES:
            book, desk = book_of(game), Desk()
            desk.put("g", game_text(game))
            one = winners(book)
            for place, standing in enumerate(standings(game)):
                counts = desk.winners("g", standing)
                self.assertTrue(counts == winners_at(book, place) == one.at(place))
                for n in COUNTS:
                    text = state_text(game, standing, n)
                    self.assertEqual(state_of(game, text), (standing, n))
                    behind = [(place_of(game, row[2]), row[3]) for row in moves_from(game, standing, n)]
                    play = Play(book, place, n, ())
                    self.assertEqual([play.go(index).here for index in play.choices], behind if play.ended is None else [])
                    self.assertIs(play.ended == 0, is_goal_at(game, standing, n) or (book.sides[place] == 1 and not behind))
                    self.assertIs(n in counts, one.wins(place, n))
                    told[n in counts] += 1
                    if abs(n) < 20:
                        self.assertTrue(n in counts or not forces(book, 12, place, n))
                        if Window(book, n - 30, n + 30, False).turns(place, n) is not None:
                            self.assertIn(n, counts)
        self.assertGreater(min(told.values()), 200)

    def test_plans_play_the_game_as_they_promise(self):
        chance = rng(941)
        ended = {}
        for game in GAMES:
            book = book_of(game)
            lead, watch = plan(book, 0), plan(book, 1)
            self.assertTrue(is_paper(book, paper(book)) and is_outside(book, told_winners(book, paper(book))))
            self.assertTrue(is_closed_step(book, winners(book)))
            for place in range(book.places):
                for n in COUNTS:
                    side = 0 if error_of(lead.begin, place, n) is None else 1
                    self.assertEqual(error_of(watch.begin, place, n) is None, side == 1)
                    chosen = (lead, watch)[side]
                    many = min(lead.enough(place, n), 200) if side == 0 else 60
                    play = played(chosen, place, n, [chance.randint(-99, 99) for _ in range(many)])
                    if side == 0 and lead.enough(place, n) <= 200:
                        self.assertEqual(play.ended, 0)
                    if side == 1:
                        self.assertNotEqual(play.ended, 0)
                    ended[side, play.ended] = ended.get((side, play.ended), 0) + 1
                    self.assertTrue(is_play(book, (place, n, play.moves)))
                    self.assertTrue(read_play(book, play_text(play)) == play)
                    # The names of the moves that the play makes are those of the game.
                    for (at, m), index in zip(play.states, play.moves):
                        rows = moves_from(game, standing_at(game, at), m)
                        self.assertIn((place_of(game, rows[open_moves(book, at, m).index(index)][2])), range(book.places))
        self.assertGreater(ended[0, 0], 50)
        self.assertGreater(ended[1, None], 50)

    def test_promises_tell_what_winners_tell(self):
        desk = Desk()
        for at, game in enumerate(GAMES):
            desk.put(f"g{at}", game_text(game))
        near = between(-9, 20)
        for at, game in enumerate(GAMES):
            for standing in standings(game):
                words = " ".join([f"g{at}"] + [str(value) for value in standing])
                won = desk.winners(f"g{at}", standing)
                desk.keep(f"{words} wins {won & near}")
                desk.keep(f"{words} safe {near - won}")
                self.assertEqual(desk.asked(f"{words} wins all")[0], won == all_counts())
                for other, another in enumerate(GAMES):
                    for target in standings(another):
                        text = f"{words} inside g{other} " + " ".join(str(value) for value in target)
                        kept, witness = desk.asked(text)
                        more = desk.winners(f"g{other}", target)
                        self.assertEqual(kept, won.within(more))
                        self.assertTrue(kept or (witness in won and witness not in more))
                for promise in desk.promises():
                    desk.release(promise)
            for name in never_open(game):
                self.assertEqual(desk.asked(f"g{at} {name} never"), (True, None))
            for name in {row[1] for row in instances(game) if row[0] != "goal"} - set(never_open(game)):
                kept, witness = desk.asked(f"g{at} {name} never")
                standing, n = state_of(game, witness)
                self.assertFalse(kept)
                self.assertIn(name, [row[0] for row in moves_from(game, standing, n)])
        journal = desk.journal()
        self.assertEqual(mended(journal), journal)
        self.assertEqual(replayed(journal).names(), desk.names())

    def test_other_names_mean_the_same(self):
        desk = Desk()
        game = game_of(CLIMB)
        desk.put("a", CLIMB)
        for sort, old, new in (("piece", "mood", "temper"), ("word", "wild", "angry"), ("rule", "rage", "boil"), ("part", "lower", "sink")):
            game = renamed(game, sort, old, new)
        desk.put("b", game_text(game))
        self.assertTrue(book_of(game) == book_of(game_of(CLIMB)))
        desk.keep("a like b")
        self.assertEqual(desk.asked("a first wild inside b first angry"), (True, None))
        self.assertEqual(desk.asked("b like a"), (True, None))

    def test_questions_about_the_game(self):
        book = book_of(game_of(CLIMB))
        for place in range(book.places):
            counts = winners_at(book, place)
            rows = [index for index, move in enumerate(book.moves) if move.place == place]
            for n in COUNTS:
                good = [index for index in rows if n in good_at(book, index)]
                slips = [index for index in rows if n in slips_at(book, index)]
                self.assertEqual(n in lone_at(book, place), len(good) == 1)
                mine = (n in counts) == (book.sides[place] == 0)
                if mine and not is_goal(book, place, n):
                    self.assertEqual(sorted(good + slips), list(open_moves(book, place, n)))
            self.assertIsNone(apart(book, place, least_book(book), place) if is_alike(book, place, least_book(book), place) else None)
            self.assertEqual(handicap(book, place, book, place), 0)
            self.assertTrue(again_at(book, place).within(counts))
        self.assertEqual(never_good(book), tuple(i for i in range(len(book.moves)) if not good_at(book, i)))

    def test_plays_of_the_watch_followed_for_ever(self):
        chance = rng(942)
        for game in GAMES:
            book = book_of(game)
            watch = plan(book, 1)
            rows = watch.player()
            for place in range(book.places):
                for n in (0, 5, FAR, -FAR):
                    if error_of(watch.begin, place, n) is None:
                        player = [row for row in some_player(chance, book, 4) if book.sides[row[0]] == 0] + list(rows)
                        self.assertNotEqual(course(book, player, place, n).kind, "first")
                        behind = state_behind(book, player, place, n, 10 ** 50)
                        self.assertTrue(behind is None or behind[1] not in winners_at(book, behind[0]))


def frozen(value, depth=0):
    """What can be seen of a value, as plain rows."""
    if isinstance(value, (list, tuple)):
        return tuple(frozen(item, depth + 1) for item in value)
    if hasattr(value, "__dict__") and depth < 12 and not callable(value):
        return type(value).__name__, tuple((name, frozen(item, depth + 1)) for name, item in sorted(vars(value).items()))
    return repr(value)


def listed(value):
    return [listed(item) for item in value] if isinstance(value, tuple) else value


class Conventions(unittest.TestCase):
    def test_lists_stand_for_rows_and_stay_as_they_are(self):
        game = game_of(CLIMB)
        book = book_of(game)
        row = board_of(book).above
        standing = ["first", "calm"]
        picks = [3, -1, 4]
        player = listed(plan(book, 1).player())
        lead = plan(book, 0)
        n = winners_at(book, 0).after(3)
        for call, arguments in ((moves_from, (game, standing, 4)), (is_goal_at, (game, standing, 4)), (place_of, (game, standing)),
                                (state_text, (game, standing, 4)), (played, (lead, 0, n, picks)), (course, (book, player, 2, FAR)),
                                (again_forced, (list(row), [0, 0], [1, 0])), (Standing, (0, 1, [[0], [1]]))):
            before = frozen(arguments)
            told = frozen(call(*arguments))
            self.assertEqual(frozen(arguments), before)
            tupled = [tuple(value) if isinstance(value, list) else value for value in arguments]
            self.assertEqual(frozen(call(*tupled)), told)

    def test_objects_never_change(self):
        game = game_of(CLIMB)
        book = book_of(game)
        one, told = winners(book), paper(book)
        lead, watch = Lead(book, told), Watch(book, one)
        things = (game, book, one, told, lead, watch)
        before = frozen(things)
        for place, n in itertools.product(range(book.places), (-3, 0, 4, FAR)):
            for each in (lead, watch):
                if error_of(each.begin, place, n) is None:
                    played(each, place, n, range_row(30))
            error_of(lead.enough, place, n)
            lead.straight(place)
            good_at(book, 0), lasting(book, place), shares(book, place), least_turns(book, place, n, 5)
            moves_from(game, standing_at(game, place), n)
        squeezed(book, 0, book.places - 1), watch.player(), renamed(game, "piece", "mood", "x"), game_text(game), never_open(game)
        self.assertEqual(frozen(things), before)
        self.assertEqual(frozen(copy.deepcopy(things)), before)

    def test_all_errors_are_errors_of_the_package(self):
        for call, arguments in ((game_of, ("game",)), (plan, (book_of(GAMES[0]), 2)), (mended, (5,)), (Desk().undo, ()), (Desk().asked, ("",)),
                                (standing_at, (GAMES[0], 9)), (lasting, (book_of(GAMES[0]), 9)), (renamed, (GAMES[0], "x", "y", "z"))):
            self.assertIsInstance(error_of(call, *arguments), LeadError)
            self.assertIsInstance(error_of(call, *arguments), ValueError)

    def test_sets_told_and_read_back(self):
        for game in GAMES:
            book = book_of(game)
            for place in range(book.places):
                for counts in (winners_at(book, place), goal_counts(book, place)):
                    self.assertTrue(read_rounds(str(counts)) == counts)
            for index in range(len(book.moves)):
                self.assertTrue(good_at(book, index).within(open_counts(book, index)))


def range_row(many):
    return list(range(many))


class Sizes(unittest.TestCase):
    def test_a_desk_of_80_deeds_with_8_promises(self):
        begin = time.process_time()
        desk = Desk()
        for at in range(6):
            desk.put(f"g{at}", (CLIMB, HEAT, STEPS)[at % 3])
        for at in range(3):
            desk.keep(f"g{at} like g{at + 3}")
        for promise in ("g0 first calm wins 1,2", "g1 first hot wins 0+3", "g0 first calm inside g3 first calm", "g0 second wild safe 1", "g1 never1 never"):
            kept, _ = desk.asked(promise)
            if kept:
                desk.keep(promise)
        for at in range(60):
            desk.attempt(lambda inner: (inner.rename("g5", "h"), inner.rename("h", "g5"))) if at % 3 else desk.undo()
        for at in range(len(desk.journal()) - 60, len(desk.journal()) + 1):
            mended(desk.journal()[:at])
        self.assertEqual(replayed(desk.journal()).promises(), desk.promises())
        self.assertLess(time.process_time() - begin, 60)

    def test_a_book_as_great_as_books_may_be(self):
        # 12 places, 60 moves, shifts to 4, |k| to 12, all m 1: boards of 48 places; whole answers in good time.
        moves = [Move(at % 12, (("least", at % 9 - 4),) if at % 4 else (), at % 5 - 4 if at % 3 else at % 9 - 4, (at * 7 + 5) % 12) for at in range(60)]
        book = Book([at % 2 for at in range(12)], moves, [Goal(at, (("is", at - 6),)) for at in range(0, 12, 3)])
        board = board_of(book)
        self.assertEqual(board.places, 48)
        begin = time.process_time()
        if max(len(board.down_targets), len(board.up_targets)) <= 10:
            plan(book, 0)
        for index in range(0, 60, 7):
            good_at(book, index)
        self.assertLess(time.process_time() - begin, 60)


if __name__ == "__main__":
    unittest.main()
