"""[33], [34], [35]: plays and their texts."""

import unittest

from anylead.books import Book, Goal, Move
from anylead.errors import BadNumber, BadPlace, BadRow, BadText, NoMove
from anylead.plays import Play, is_play, play_text, read_play
from helpers import FAR, NO_INTEGERS, NO_ROWS, error_of, goal_plainly, great_book, open_plainly, raises, rng, some_book

# FIRST goes down by 1 or 2, or hands on to SECOND, who goes down by 1 from 1 on; the goal is 0 at place 0.
BOOK = Book((0, 1), (Move(0, (("least", 1),), -1, 0), Move(1, (("least", 1),), -1, 1), Move(0, (("least", 2),), -2, 0),
                     Move(0, (("not", 0),), 0, 1), Move(1, (("is", 7),), 0, 0)), (Goal(0, (("is", 0),)),))
NO_PLACES = NO_INTEGERS + (-1, 2, FAR)


def end_plainly(book, place, n):
    if goal_plainly(book, place, n):
        return 0, ()
    choices = tuple(open_plainly(book, place, n))
    return (None, choices) if choices else (1 - book.sides[place], ())


def walk(chance, book, place, n, most):
    """Moves made by chance from a state, and all states."""
    moves, states = [], [(place, n)]
    while len(moves) < most:
        ended, choices = end_plainly(book, *states[-1])
        if ended is not None:
            break
        moves.append(chance.choice(choices))
        move = book.moves[moves[-1]]
        states.append((move.target, states[-1][1] + move.shift))
    return moves, states


class Plays(unittest.TestCase):
    def attributes(self, play, book, place, n, moves, states):
        self.assertIs(play.book, book)
        self.assertEqual((play.place, play.n, play.moves, play.states, play.here),
                         (place, n, tuple(moves), tuple(states), states[-1]))
        self.assertEqual([type(row) for row in (play.moves, play.states, play.here, play.choices)], [tuple] * 4)
        ended, choices = end_plainly(book, *states[-1])
        self.assertEqual((play.ended, play.choices), (ended, choices))
        self.assertEqual(play.turn, book.sides[states[-1][0]] if ended is None else None)

    def test_each_way_to_end(self):
        goes_on = Play(BOOK, 0, 5, (0, 2))
        self.attributes(goes_on, BOOK, 0, 5, (0, 2), ((0, 5), (0, 4), (0, 2)))
        self.assertEqual((goes_on.ended, goes_on.turn, goes_on.choices), (None, 0, (0, 2, 3)))
        goal = Play(BOOK, 0, 5, (0, 2, 2))
        self.attributes(goal, BOOK, 0, 5, (0, 2, 2), ((0, 5), (0, 4), (0, 2), (0, 0)))
        self.assertEqual((goal.ended, goal.turn, goal.choices), (0, None, ()))
        stuck = Play(BOOK, 0, 2, (3, 1, 1))
        self.attributes(stuck, BOOK, 0, 2, (3, 1, 1), ((0, 2), (1, 2), (1, 1), (1, 0)))
        self.assertEqual((stuck.ended, stuck.turn), (0, None))
        lost = Play(Book((0,), (Move(0, (("least", 1),), -1, 0),), ()), 0, 1, (0,))
        self.assertEqual((lost.ended, lost.turn, lost.choices, lost.here), (1, None, (), (0, 0)))
        second = Play(BOOK, 1, 3, ())
        self.assertEqual((second.ended, second.turn, second.choices, second.states), (None, 1, (1,), ((1, 3),)))
        self.assertEqual((Play(BOOK, 0, 0, ()).ended, Play(BOOK, 0, 0, ()).choices), (0, ()))

    def test_many_plays(self):
        chance = rng(331)
        for _ in range(150):
            book = some_book(chance)
            place, n = chance.randrange(book.places), chance.choice([chance.randint(-6, 6), FAR, -FAR])
            moves, states = walk(chance, book, place, n, 12)
            for many in range(len(moves) + 1):
                self.attributes(Play(book, place, n, moves[:many]), book, place, n, moves[:many], states[:many + 1])
                self.assertIs(is_play(book, (place, n, tuple(moves[:many]))), True)

    def test_lists_are_kept_as_tuples(self):
        moves = [0, 2]
        play = Play(BOOK, 0, 5, moves)
        moves.append(0)
        self.assertEqual(play.moves, (0, 2))
        self.assertTrue(play == Play(BOOK, 0, 5, (0, 2)))

    def test_moves_that_can_not_be_made(self):
        good = (0, 0, 2, 3, 1)
        Play(BOOK, 0, 9, good)
        for at in range(len(good)):
            shut = [1, 4] if at < 4 else [0, 2, 3, 4]
            for item in NO_INTEGERS + (-1, 5, FAR) + tuple(shut):
                row = good[:at] + (item,) + good[at + 1:]
                raises(self, NoMove(item), Play, BOOK, 0, 9, row)
                raises(self, NoMove(item), Play, BOOK, 0, 9, list(row) + [None])
                self.assertIs(is_play(BOOK, (0, 9, row)), False)
        raises(self, NoMove(2), Play, BOOK, 0, 1, (2,))

    def test_no_move_behind_an_end(self):
        for moves, n in (((), 0), ((0,), 1), ((2, 0), 3)):
            for item in (0, 1, 2, 3, 4, None):
                raises(self, NoMove(item), Play, BOOK, 0, n, moves + (item,))
                self.assertIs(is_play(BOOK, (0, n, moves + (item,))), False)
        open_at_goal = Book((0,), (Move(0, (), 1, 0),), (Goal(0, (("is", 3),)),))
        raises(self, NoMove(0), Play, open_at_goal, 0, 1, (0, 0, 0))
        self.assertEqual(Play(open_at_goal, 0, 1, (0, 0)).ended, 0)
        raises(self, NoMove(1), Play, BOOK, 1, 2, (1, 1, 1))

    def test_errors_in_their_order(self):
        for place in NO_PLACES:
            raises(self, BadPlace(place), Play, BOOK, place, None, None)
        for n in NO_INTEGERS:
            raises(self, BadNumber("count", n), Play, BOOK, 0, n, None)
        for moves in NO_ROWS:
            raises(self, BadRow(moves), Play, BOOK, 0, 0, moves)

    def test_go_back_since(self):
        chance = rng(332)
        for _ in range(60):
            book = some_book(chance)
            place, n = chance.randrange(book.places), chance.choice([chance.randint(-6, 6), FAR])
            moves, states = walk(chance, book, place, n, 9)
            play = Play(book, place, n, ())
            raises(self, NoMove(None), play.back)
            for many, index in enumerate(moves):
                for item in (-1, len(book.moves), None, True, "0"):
                    raises(self, NoMove(item), play.go, item)
                ahead, play = play, play.go(index)
                self.attributes(play, book, place, n, moves[:many + 1], states[:many + 2])
                self.assertTrue(play.back() == ahead)
                self.assertEqual(ahead.moves, tuple(moves[:many]))
            for k, state in enumerate(states):
                self.attributes(play.since(k), book, *state, moves[k:], states[k:])
            for k in NO_INTEGERS + (-1, len(states), FAR):
                raises(self, BadNumber("state", k), play.since, k)
            if play.ended is not None:
                for index in range(len(book.moves)):
                    raises(self, NoMove(index), play.go, index)

    def test_long_plays(self):
        play = Play(BOOK, 0, FAR, ())
        for _ in range(400):
            play = play.go(0)
        self.assertEqual(play.here, (0, FAR - 400))
        self.assertEqual(play.since(390).moves, (0,) * 10)
        book = great_book(rng(333))
        moves, states = walk(rng(334), book, 0, FAR, 400)
        self.assertEqual(Play(book, 0, FAR, moves).states, tuple(states))

    def test_equal(self):
        play = Play(BOOK, 0, 5, (0, 2))
        again = Book(BOOK.sides, BOOK.moves, BOOK.goals)
        self.assertTrue(play == Play(again, 0, 5, [0, 2]))
        self.assertFalse(play != Play(again, 0, 5, (0, 2)))
        other = Book(BOOK.sides, BOOK.moves, ())
        for value in (Play(other, 0, 5, (0, 2)), Play(BOOK, 0, 6, (0, 2)), Play(BOOK, 0, 5, (2, 0)), Play(BOOK, 0, 5, (0,)),
                      Play(BOOK, 1, 5, ()), None, 0, (0, 5, (0, 2)), "0 at 5: 0 2", BOOK):
            self.assertFalse(play == value)
            self.assertTrue(play != value)
        self.assertFalse(Play(BOOK, 1, 5, ()) == Play(BOOK, 0, 5, ()))


class Judged(unittest.TestCase):
    def test_what_makes_no_play(self):
        self.assertIs(is_play(BOOK, (0, 5, (0, 2))), True)
        self.assertIs(is_play(BOOK, (0, 5, ())), True)
        self.assertIs(is_play(BOOK, (1, -FAR, ())), True)
        for told in ([0, 5, (0, 2)], (0, 5, [0, 2]), (0, 5), (0, 5, (0, 2), ()), (0, 5, 0), (), (0,), (0, 5, None), (0, 5, "0"),
                     Play(BOOK, 0, 5, (0, 2)), "0 at 5: 0 2", None, 0, True, {}, {0: 5}, set(), object(), (False, 5, (0, 2)),
                     (0, True, (0,)), (0, 5, (False, 2)), (0, 5, (0, 2.0)), (0, 5, ((0,), 2)), (0, 5, ("0",)), (0.0, 5, ()),
                     (0, 5.0, ()), (-1, 5, ()), (2, 5, ()), (None, 5, ()), (0, None, ()), (0, "5", ()), (0, float("nan"), ()),
                     (0, 5, (1,)), (0, 5, (0, None)), (0, 5, (5,)), (0, 5, (-1,)), iter((0, 5, ())), BOOK, Play,
                     (0, 1, (0, 0)), ((0, 5), (0, 2), ()), b"\x00\x05\x00"):
            self.assertIs(is_play(BOOK, told), False, told)


class Texts(unittest.TestCase):
    def test_the_text(self):
        self.assertEqual(play_text(Play(BOOK, 0, 5, (0, 2))), "0 at 5: 0 2")
        self.assertEqual(play_text(Play(BOOK, 1, -5, ())), "1 at -5:")
        self.assertEqual(play_text(Play(BOOK, 0, 10 ** 60 - 1, (2,))), "0 at " + "9" * 60 + ": 2")

    def test_there_and_back(self):
        chance = rng(351)
        books = [some_book(chance) for _ in range(60)] + [great_book(chance)] * 5
        for book in books:
            for n in (chance.randint(-9, 9), 10 ** 60 - 1, 1 - 10 ** 60, -FAR):
                place = chance.randrange(book.places)
                moves, _ = walk(chance, book, place, n, 15)
                play = Play(book, place, n, moves)
                text = play_text(play)
                self.assertEqual(text, " ".join([f"{place} at {n}:"] + [str(index) for index in moves]))
                self.assertTrue(read_play(book, text) == play)

    def wrong(self, text, column):
        raises(self, BadText(1, column), read_play, BOOK, text)

    def test_no_string(self):
        for text in NO_INTEGERS[:3] + (5, b"0 at 5:", ["0 at 5:"], ("0", "at", "5:"), object()):
            raises(self, BadText(0, 0), read_play, BOOK, text)

    def test_the_first_word(self):
        for word in ("", "2", "-1", "00", "+0", "-0", "0x0", "0:", "a", "0.0", "01", "1_0", "\u0661", "\u00b2", "0\t", "\n0", "9" * 70):
            self.wrong(word, 1)
            self.wrong(word + " at 5: 0 2", 1)
        self.wrong(" 0 at 5:", 1)

    def test_the_second_word(self):
        for word in ("", "At", "at:", "t", "ata", "5:", "at\n", "\tat"):
            self.wrong("0 " + word, 3)
            self.wrong("1 " + word + " 5: 0 2", 3)
        self.wrong("0  at 5:", 3)

    def test_the_third_word(self):
        for word in ("", ":", "5", "5::", "+5:", "05:", "-05:", "-0:", "-:", "--5:", "5 :", "5;", "5:0", " 5:", "\u0665:", "1_0:", "5.0:",
                     "1e3:", "\u00b2:", "1" + "0" * 60 + ":", "-1" + "0" * 60 + ":", "9" * 5000 + ":", "5\n:", "0x5:", "5:\n"):
            self.wrong("0 at " + word, 6)
            self.wrong("1 at " + word + " 0 2", 6)
        self.assertEqual(read_play(BOOK, "0 at 0:").n, 0)
        self.assertEqual(read_play(BOOK, "0 at -7:").n, -7)
        self.assertEqual(read_play(BOOK, "0 at -" + "9" * 60 + ":").n, 1 - 10 ** 60)

    def test_further_words(self):
        for ahead in ("0 at 5:", "0 at 5: 0", "0 at 5: 0 2", "0 at " + "8" * 60 + ": 0 0 2"):
            for word in ("", "1", "4", "5", "-1", "00", "02", "+0", "-0", "0:", "a", "\u0660", "9" * 70, "0\n", "2\t", "0.0", "True"):
                self.wrong(f"{ahead} {word}", len(ahead) + 2)
                self.wrong(f"{ahead} {word} 0", len(ahead) + 2)
        self.wrong("0 at 5: 2 2 2", 13)
        self.wrong("0 at 5: 2 2 0 0", 15)
        self.wrong("0 at 0: 0", 9)
        self.wrong("1 at 1: 1 1", 11)

    def test_words_too_few(self):
        self.wrong("", 1)
        self.wrong("0", 2)
        self.wrong("1", 2)
        self.wrong("0 ", 3)
        self.wrong("0 at", 5)
        self.wrong("0 at ", 6)
        self.wrong("5", 1)
        self.wrong("0 ta", 3)

    def test_further_spaces(self):
        self.wrong("0 at 5: ", 9)
        self.wrong("0 at  5:", 6)
        self.wrong("0 at 5:  0", 9)
        self.wrong("0 at 5: 0  2", 11)
        self.wrong("0 at 5: 0 2 ", 13)

    def test_by_the_words_at_texts_bent_by_chance(self):
        chance = rng(352)
        signs = "0125 :-at\n+"
        for _ in range(3000):
            text = "0 at 5: 0 2 0"
            for _ in range(chance.randint(1, 2)):
                at = chance.randrange(len(text) + 1)
                text = text[:at] + chance.choice(["", chance.choice(signs)]) + text[at + chance.randint(0, 1):]
            wanted = wrong_plainly(text)
            error = error_of(read_play, BOOK, text)
            self.assertEqual(None if error is None else (error.line, error.column), wanted, text)
            if wanted is None:
                self.assertEqual(play_text(read_play(BOOK, text)), text)


def wrong_plainly(text):
    """The line and column that [35] tells for a text about BOOK; None if it is right."""
    words, column, place, n = text.split(" "), 1, None, None
    for number in range(max(3, len(words))):
        if number == len(words):
            return 1, len(text) + 1
        word = words[number]
        if number == 0:
            right = word in ("0", "1")
            place = word
        elif number == 1:
            right = word == "at"
        elif number == 2:
            right = word[-1:] == ":" and word[:-1] in [str(n) for n in range(-9999, 10000)]
            n = int(word[:-1]) if right else None
            place = int(place)
        else:
            right = end_plainly(BOOK, place, n)[0] is None and word in [str(i) for i in open_plainly(BOOK, place, n)]
            if right:
                place, n = BOOK.moves[int(word)].target, n + BOOK.moves[int(word)].shift
        if not right:
            return 1, column
        column += len(word) + 1
    return None


if __name__ == "__main__":
    unittest.main()
