"""[84] to [88]: a desk for games and promises."""

import time
import unittest

from anylead.desk import Desk
from anylead.errors import (BadName, BadNumber, BadPromise, BadRow, BadText, NoName, NotKept, NothingToRedo, NothingToUndo, TakenName,
                            TooMany)
from anylead.gamebooks import book_of
from anylead.games import game_of, game_text, standings
from anylead.rounds import Rounds, every
from anylead.winners import winners_at
from deskhelpers import (BAD_PROMISES, GREAT, HEAT, PLAIN, PROMISES, STEPS, TEXTS, THREE, TWO, WIDE, PlainDesk, Promise, Stop, do, is_set_text,
                         look_of, some_deed, wrong_word)
from gamehelpers import KEYWORDS
from helpers import FAR, NO_INTEGERS, error_of, raises, rng

NO_NAMES = NO_INTEGERS + ("", "A", "1a", "a b", "a\n", "abcdefghijklm") + tuple(KEYWORDS)
GAMES = {"a": TWO, "b": THREE, "hot": HEAT, "f": STEPS, "p": PLAIN}
ALL_RULES = {name: game_of(text) for name, text in GAMES.items()}


def desk_of(**texts):
    desk = Desk()
    for name, text in texts.items():
        desk.put(name, text)
    return desk


def not_kept(test, promise, call, *arguments):
    """Asserts that the call raises NotKept of the promise; tells the witness."""
    error = error_of(call, *arguments)
    test.assertIs(type(error), NotKept)
    test.assertEqual(error.promise, promise)
    return error.witness


class Asking(unittest.TestCase):
    def test_all_kinds_against_their_words(self):
        desk = desk_of(**GAMES)
        seen = {}
        for promise in PROMISES:
            for one in GAMES:
                for other in GAMES:
                    text = promise.format(one, other)
                    if wrong_word(ALL_RULES, text) is not None:
                        raises(self, BadPromise(wrong_word(ALL_RULES, text)), desk.asked, text)
                        continue
                    told = Promise(ALL_RULES, text.split())
                    result = desk.asked(text)
                    self.assertTrue(type(result) is tuple and len(result) == 2)
                    kept, witness = result
                    self.assertIs(kept, told.kept(), text)
                    seen[told.kind, kept] = seen.get((told.kind, kept), 0) + 1
                    if kept:
                        self.assertIsNone(witness)
                        desk.keep(text)
                        desk.release(text)
                    else:
                        self.assertTrue(told.is_shown(witness), (text, witness))
                        plain = " ".join(text.split())
                        self.assertTrue(told.is_shown(not_kept(self, plain, desk.keep, text)))
        self.assertEqual(set(seen), {(kind, kept) for kind in ("wins", "safe", "inside", "never", "like") for kept in (True, False)}, seen)

    def test_witnesses_that_are_known(self):
        desk = desk_of(**GAMES)
        self.assertEqual(desk.asked("a like b"), (False, 0))
        self.assertEqual(desk.asked("a like hot"), (False, None))
        self.assertEqual(desk.asked("hot like a"), (False, None))
        self.assertEqual(desk.asked("a like a"), (True, None))
        self.assertEqual(desk.asked("a first wins 3"), (False, 3))
        self.assertEqual(desk.asked("a first wins 1,2,3,4"), (False, 3))
        self.assertEqual(desk.asked("a first safe 3..5,9") [0], False)
        self.assertEqual(desk.asked("hot never1 never"), (True, None))
        desk.put("c", THREE.replace("second s", "second s2"))
        self.assertEqual(desk.asked("b like c"), (True, None))
        desk.put("c", "game c\npiece p is x y\nfirst r\nthen p is y\nend\nsecond s\nend\n")
        desk.put("d", "game c\npiece p is x y\nfirst r\nend\nsecond s\nend\ngoal\nwhen p is y\nwhen turn is second\nend")
        self.assertEqual(desk.asked("c like d"), (False, 1))

    def test_promises_far_out(self):
        desk = desk_of(**GAMES)
        self.assertEqual(desk.asked("a first wins 1+3,2+3")[0], True)
        self.assertEqual(desk.asked("a second safe 19000+3,19001+3"), (True, None))
        kept, witness = desk.asked("a first wins 19000+3,19001+3,19002+3")
        self.assertTrue(not kept and witness >= 19002 and witness % 3 == 0)
        raises(self, TooMany("middle", 20000), desk.asked, "a first wins 999999")
        self.assertEqual(desk.asked("a first wins all")[0], False)
        self.assertEqual(desk.asked("a second safe none"), (True, None))

    def test_first_wrong_words(self):
        desk = desk_of(**GAMES)
        for promise, column in (("", 1), ("   ", 1), ("c", 1), ("A first", 1), ("a", 2), ("a third", 2), ("a wins", 2), ("a never", 2), ("a a", 2),
                                ("a first", 3), ("a first first", 3), ("a first never", 3), ("a first wins", 4), ("a first wins x", 4),
                                ("a first wins 01", 4), ("a first wins 1, 2", 4), ("a first wins 1,", 4), ("a first wins 1 2", 5), ("a first wins 1 wins", 5),
                                ("a first safe", 4), ("a first inside", 4), ("a first inside zz", 4), ("a first inside b", 5), ("a first inside b f", 5),
                                ("a first inside b first b", 6), ("a first inside hot first", 6), ("a first inside hot first warm", 6),
                                ("a first inside hot first cold 1", 7), ("a f", 3), ("a f wins", 3), ("a f never never", 4), ("a up never", 2), ("a down never", 2),
                                ("hot first", 3), ("hot first wins 1", 3), ("hot first 1", 3), ("hot first hot", 4), ("hot first hot hot", 4),
                                ("hot first hot wins", 5), ("hot second cold safe 3-", 5), ("f first 0", 4), ("f first 3", 3), ("f first 00", 3), ("f first +1", 3),
                                ("f f never", 2), ("a like", 3), ("a like c", 3), ("a like b b", 4), ("a\tlike b", 1), ("a like\nb", 2), ("\na like b", 1),
                                ("a first wins all,none", 4), ("a first wins 1..", 4), ("a first wins 1+10000", 4), ("a first wins \u0661", 4)):
            raises(self, BadPromise(column), desk.asked, promise)
            raises(self, BadPromise(column), desk.keep, promise)
            self.assertEqual(wrong_word(ALL_RULES, promise), column, promise)
        for value in NO_INTEGERS[:3] + (5, ["a like b"], b"a like b"):
            if value != "1":
                raises(self, BadPromise(0), desk.asked, value)
                raises(self, BadPromise(0), desk.keep, value)
        raises(self, BadPromise(1), Desk().asked, "a like a")
        raises(self, BadPromise(1), Desk().asked, "")

    def test_promises_bent_by_chance(self):
        chance = rng(851)
        desk = desk_of(**GAMES)
        pool = list(GAMES) + ["first", "second", "wins", "safe", "inside", "like", "never", "cold", "0", "1", "2", "s", "down", "1+3", "none", "zz", "3..", ""]
        columns = {}
        for _ in range(4000):
            words = chance.choice(PROMISES).format(chance.choice(list(GAMES)), chance.choice(list(GAMES))).split(" ")
            for _ in range(chance.randint(0, 2)):
                at = chance.randrange(len(words))
                words[at:at + chance.randint(0, 1)] = chance.choice([[], [chance.choice(pool)], [chance.choice(pool)]])
                words = words or [""]
            promise = " ".join(words)
            column = wrong_word(ALL_RULES, promise)
            columns[column] = columns.get(column, 0) + 1
            if column is None:
                self.assertIsNone(error_of(desk.asked, promise))
            else:
                raises(self, BadPromise(column), desk.asked, promise)
        self.assertGreaterEqual(set(columns), {None, 1, 2, 3, 4, 5, 6})

    def test_set_texts(self):
        desk = desk_of(a=PLAIN)
        for word in ("0", "-1", "1,2", "1..5", "5..1", "1+3", "-4-2", "123456", "-123456", "1-1,2", "none", "all"):
            self.assertTrue(is_set_text(word))
            self.assertIsNone(error_of(desk.asked, "a first safe " + word))
        for word in ("", "00", "-0", "1234567", "+1", "1+0", "1+10000", "1,,2", ",1", "None", "1...2", "1..2..3", "1+2+3", "all,1", "nonee"):
            self.assertFalse(is_set_text(word))
            raises(self, BadPromise(4), desk.asked, "a first safe " + word)

    def test_errors_in_their_order(self):
        desk = desk_of(a=PLAIN, great=GREAT, wide=WIDE, many="game m\n" + "goal\nend\n" * 61)
        raises(self, BadPromise(5), desk.asked, "a first wins 0,20001 x")
        raises(self, BadPromise(7), desk.asked, "great first 1 b wins 0,20001 x")
        raises(self, TooMany("middle", 20000), desk.asked, "a first wins 0,20001")
        raises(self, TooMany("period", 20000), desk.asked, "a first wins 1+9000,1+7000")
        raises(self, TooMany("period", 20000), desk.asked, "great first 1 b wins 1+9000,1+7000")
        raises(self, TooMany("places", 24), desk.asked, "great first 1 b wins 1")
        raises(self, TooMany("places", 24), desk.asked, "great x never")
        raises(self, TooMany("places", 24), desk.asked, "great like many")
        raises(self, TooMany("instances", 60), desk.asked, "many like great")
        raises(self, TooMany("places", 24), desk.asked, "great first 1 b inside many first")
        raises(self, TooMany("instances", 60), desk.asked, "many first inside great first 1 b")
        raises(self, TooMany("instances", 60), desk.asked, "wide first 1 inside many first")
        raises(self, TooMany("places", 24), desk.asked, "a like great")
        raises(self, TooMany("places", 150), desk.asked, "wide first 1 wins 1")
        raises(self, TooMany("places", 150), desk.asked, "a first inside wide first 1")
        raises(self, TooMany("places", 150), desk.asked, "wide first 1 inside a first")
        self.assertEqual(desk.asked("wide x never")[0], False)
        nines = "game n\nfirst f\nwhen count least 1\nthen count less {0}\nend\nsecond s\nwhen count least 1\nthen count less {0}\nend\n"
        desk.put("nine", nines.format(19))
        raises(self, TooMany("period", 20000), desk.asked, "nine first safe 1+997")
        self.assertEqual(desk.asked("nine first safe 1+38")[0], False)
        for call in (desk.keep, desk.asked):
            raises(self, TooMany("places", 24), call, "great x never")


class Items(unittest.TestCase):
    def test_put_names_text_and_game(self):
        desk = Desk()
        self.assertEqual((desk.names(), desk.promises(), desk.journal()), ((), (), ""))
        self.assertIsNone(desk.put("b", TWO))
        self.assertIsNone(desk.put("a", "\n game   x \n\n"))
        desk.put("c", HEAT)
        self.assertEqual(desk.names(), ("b", "a", "c"))
        self.assertEqual(desk.text("a"), "game x\n")
        self.assertEqual(desk.text("c"), game_text(game_of(HEAT)))
        self.assertTrue(desk.game("c") == game_of(HEAT))
        desk.put("b", STEPS)
        self.assertEqual(desk.names(), ("b", "a", "c"))
        self.assertTrue(desk.game("b") == game_of(STEPS))
        for name in NO_NAMES:
            raises(self, BadName(name), desk.put, name, None)
        for value in (None, 5, b"game a", ["game a"]):
            raises(self, BadText(0, 0), desk.put, "a", value)
        raises(self, BadText(2, 2), desk.put, "a", "game a\nfirst")
        self.assertEqual((desk.names(), desk.text("a")), (("b", "a", "c"), "game x\n"))

    def test_no_such_name(self):
        desk = desk_of(a=TWO)
        for name in NO_INTEGERS + ("b", "", "A", "first", "take"):
            for call in (desk.text, desk.game, desk.drop):
                raises(self, NoName(name), call, name)
            raises(self, NoName(name), desk.winners, name, None)
            raises(self, NoName(name), desk.edit, name, None, None)
            raises(self, NoName(name), desk.rename, name, None)

    def test_winners(self):
        desk = desk_of(**GAMES)
        for name, game in ALL_RULES.items():
            for place, standing in enumerate(standings(game)):
                told = desk.winners(name, standing)
                self.assertIs(type(told), Rounds)
                self.assertTrue(told == winners_at(book_of(game), place))
                self.assertTrue(desk.winners(name, list(standing)) == told)
            for value in (None, (), ("third",), ("first", "x", "y"), "first", (0,)):
                raises(self, BadRow(value), desk.winners, name, value)
        desk.put("great", GREAT)
        desk.put("wide", WIDE)
        raises(self, TooMany("places", 24), desk.winners, "great", None)
        raises(self, BadRow(None), desk.winners, "wide", None)
        raises(self, TooMany("places", 150), desk.winners, "wide", ("first", 1))

    def test_edit_at_each_line(self):
        lines = game_text(game_of(TWO)).split("\n")[:-1]
        chance = rng(881)
        for text in ("", "\n", "when count least 2", "when count least 2\n", "\nwhen count least 2\n\n", "first z\nend", "first z\nend\n", "end\nend\n", "x", " \n ",
                     "goal\nend\nfor k from 1 to 2", "game  y", "then count less k\nthen again"):
            new = text.split("\n")
            new = new[:-1] if new[-1] == "" else new
            for line in range(1, len(lines) + 2):
                desk = desk_of(a=TWO, b=TWO)
                whole = "".join(each + "\n" for each in lines[:line - 1] + new + lines[line:])
                error = error_of(game_of, whole)
                if error is None:
                    self.assertIsNone(desk.edit("a", line, text))
                    self.assertEqual(desk.text("a"), game_text(game_of(whole)))
                else:
                    raises(self, error, desk.edit, "a", line, text)
                    self.assertEqual(desk.text("a"), game_text(game_of(TWO)))
                self.assertEqual((desk.names(), desk.text("b")), (("a", "b"), game_text(game_of(TWO))))
        desk = desk_of(a=TWO)
        for line in NO_INTEGERS + (0, -1, len(lines) + 2, FAR):
            raises(self, BadNumber("line", line), desk.edit, "a", line, None)
        for value in (None, 5, b"x", ["end"]):
            raises(self, BadText(0, 0), desk.edit, "a", chance.randint(1, len(lines) + 1), value)
        one = desk_of(a="game a")
        raises(self, BadText(1, 1), one.edit, "a", 1, "")
        raises(self, BadText(3, 1), one.edit, "a", 2, "goal")
        one.edit("a", 2, "goal\nend")
        one.edit("a", 1, "\n\ngame b\n")
        self.assertEqual(one.text("a"), "game b\ngoal\nend\n")

    def test_rename(self):
        desk = desk_of(**{"a": TWO, "hot": HEAT, "b": TWO, "cold": HEAT})
        promises = ("a first wins 1", "hot first hot wins 0", "a like b", "b like a", "hot first hot inside cold first hot", "cold first cold inside hot first cold",
                    "a f never", "hot never1 never")
        for promise in promises:
            if promise != "a f never":
                desk.keep(promise)
        self.assertIsNone(desk.rename("hot", "f"))
        self.assertEqual(desk.names(), ("a", "f", "b", "cold"))
        self.assertEqual(desk.promises(), ("a first wins 1", "f first hot wins 0", "a like b", "b like a", "f first hot inside cold first hot",
                                           "cold first cold inside f first cold", "f never1 never"))
        desk.rename("cold", "never1")
        desk.rename("a", "x")
        self.assertEqual(desk.promises(), ("x first wins 1", "f first hot wins 0", "x like b", "b like x", "f first hot inside never1 first hot",
                                           "never1 first cold inside f first cold", "f never1 never"))
        for name in NO_NAMES:
            raises(self, BadName(name), desk.rename, "x", name)
        for name in ("x", "f", "b", "never1"):
            raises(self, TakenName(name), desk.rename, "x", name)
        raises(self, NoName("zz"), desk.rename, "zz", "zz")
        desk.undo()
        desk.undo()
        desk.undo()
        self.assertEqual(desk.names(), ("a", "hot", "b", "cold"))
        self.assertEqual(desk.promises()[1], "hot first hot wins 0")

    def test_drop_with_its_promises(self):
        desk = desk_of(a=TWO, b=TWO, hot=HEAT)
        for promise in ("a first wins 1", "a like b", "b like a", "b first wins 1", "hot first hot wins 0", "b first inside a first", "hot never1 never"):
            desk.keep(promise)
        before = desk.promises()
        self.assertIsNone(desk.drop("a"))
        self.assertEqual((desk.names(), desk.promises()), (("b", "hot"), ("b first wins 1", "hot first hot wins 0", "hot never1 never")))
        desk.undo()
        self.assertEqual((desk.names(), desk.promises()), (("a", "b", "hot"), before))
        desk.redo()
        desk.put("a", THREE)
        self.assertEqual(desk.names(), ("b", "hot", "a"))


class Promises(unittest.TestCase):
    def test_keep_and_release(self):
        desk = desk_of(a=TWO)
        self.assertIsNone(desk.keep("  a  first   wins 1,2 "))
        desk.keep("a first wins 2,1")
        desk.keep("a first wins 1,2")
        self.assertEqual(desk.promises(), ("a first wins 1,2", "a first wins 2,1"))
        self.assertEqual(not_kept(self, "a first wins 3", desk.keep, " a first  wins 3"), 3)
        for promise in ("a first wins 1", "a first wins", "", None, 5, " a first wins 1 ", ["a first wins 1,2"]):
            raises(self, NoName(promise), desk.release, promise)
        self.assertIsNone(desk.release("   a first wins 1,2"))
        self.assertEqual(desk.promises(), ("a first wins 2,1",))
        raises(self, NoName("a first wins 1,2"), desk.release, "a first wins 1,2")

    def test_edits_that_break_a_promise(self):
        desk = desk_of(a=TWO, b=TWO, hot=HEAT)
        for promise in ("hot first hot wins 0", "a first wins 1+3", "a like b", "hot never1 never"):
            desk.keep(promise)
        before = look_of(desk)
        self.assertTrue(Promise({"a": game_of(THREE)}, "a first wins 1+3".split()).is_shown(not_kept(self, "a first wins 1+3", desk.put, "a", THREE)))
        not_kept(self, "a like b", desk.put, "b", THREE)
        not_kept(self, "a like b", desk.edit, "b", 2, "for k from 1 to 1")
        raises(self, BadPromise(3), desk.put, "hot", TWO)
        raises(self, BadPromise(2), desk.edit, "hot", 12, "first never2")
        not_kept(self, "hot never1 never", desk.edit, "hot", 14, "when count most 3")
        self.assertEqual(look_of(desk), before)
        desk.release("a like b")
        desk.put("b", THREE)
        not_kept(self, "a first wins 1+3", desk.put, "a", THREE)
        desk.put("c", THREE)

    def test_the_first_promise_that_fails_tells(self):
        desk = desk_of(a=TWO, hot=HEAT)
        desk.keep("hot first hot wins 0")
        desk.keep("hot never1 never")
        raises(self, BadPromise(3), desk.put, "hot", TWO)
        desk.release("hot first hot wins 0")
        raises(self, BadPromise(2), desk.put, "hot", TWO)
        desk.keep("hot second hot safe 2")
        raises(self, BadPromise(2), desk.put, "hot", TWO)
        desk.release("hot never1 never")
        desk.keep("hot never1 never")
        raises(self, BadPromise(3), desk.put, "hot", TWO)
        kept = HEAT.replace("hot cold", "hot cold warm")
        desk.put("hot", kept)
        self.assertEqual(not_kept(self, "hot second hot safe 2", desk.put, "hot", kept.replace(" then p is cold\n", "")), 2)

    def test_too_great_games(self):
        desk = desk_of(a=HEAT)
        desk.keep("a first hot wins 0")
        great = HEAT.replace("piece p is hot cold", "piece p is hot cold\npiece q from 1 to 9")
        raises(self, BadPromise(4), desk.put, "a", great)
        many = HEAT + "for v from 1 to 30\nfor w from 1 to 2\ngoal\nend\nend\nend\n"
        raises(self, TooMany("instances", 60), desk.put, "a", many)
        self.assertEqual(desk.text("a"), game_text(game_of(HEAT)))
        desk.put("b", many)

    def test_broken(self):
        desk = desk_of(a=TWO, hot=HEAT)
        desk.keep("a first wins 1,2")
        desk.keep("a second safe 1")
        desk.keep("hot never1 never")
        self.assertEqual(desk.broken(), ())

        def action(given):
            given.put("a", THREE.replace("first f", "first g").replace("least k", "least 9"))
            pairs = given.broken()
            self.assertTrue(type(pairs) is tuple and [pair[0] for pair in pairs] == ["a first wins 1,2", "a second safe 1"])
            for promise, witness in pairs:
                self.assertTrue(Promise({"a": given.game("a")}, promise.split()).is_shown(witness))
                self.assertEqual(given.asked(promise), (False, witness))
            given.put("hot", TWO)
            raises(self, BadPromise(2), given.broken)
            given.put("a", HEAT)
            raises(self, BadPromise(3), given.broken)
            return 7
        self.assertEqual(desk.trial(action), 7)
        self.assertEqual(desk.broken(), ())


class Undoing(unittest.TestCase):
    def test_each_kind_of_edit(self):
        desk = Desk()
        raises(self, NothingToUndo(), desk.undo)
        raises(self, NothingToRedo(), desk.redo)
        states = [look_of(desk)[:3]]
        for deed in (("put", "a", TWO), ("put", "b", TWO), ("keep", "a like b"), ("keep", "a like b"), ("rename", "b", "c"), ("edit", "a", 1, "game x"),
                     ("put", "a", TWO), ("release", "a like c"), ("put", "c", THREE), ("drop", "a"), ("attempt", [("put", "z", TWO)], [True], "well"),
                     ("attempt", [], [], "well")):
            self.assertEqual(do(desk, deed)[0], "told")
            states.append(look_of(desk)[:3])
        raises(self, NothingToRedo(), desk.redo)
        for state in states[-2::-1]:
            self.assertIsNone(desk.undo())
            self.assertEqual(look_of(desk)[:3], state)
        raises(self, NothingToUndo(), desk.undo)
        for state in states[1:]:
            self.assertIsNone(desk.redo())
            self.assertEqual(look_of(desk)[:3], state)
        raises(self, NothingToRedo(), desk.redo)

    def test_an_edit_ahead_of_redo(self):
        desk = desk_of(a=TWO, b=TWO)
        desk.undo()
        desk.undo()
        desk.redo()
        raises(self, BadText(1, 1), desk.put, "c", "")
        desk.redo()
        desk.undo()
        desk.put("c", TWO)
        raises(self, NothingToRedo(), desk.redo)
        desk.undo()
        desk.undo()
        self.assertEqual(desk.names(), ())
        desk.redo()
        desk.redo()
        self.assertEqual(desk.names(), ("a", "c"))


class Within(unittest.TestCase):
    def test_results_and_one_undo(self):
        desk = desk_of(a=TWO)
        desk.keep("a first wins 1")
        given = []

        def action(inner):
            given.append(inner)
            inner.put("a", HEAT)
            inner.put("b", TWO)
            inner.drop("a")
            inner.put("a", TWO)
            inner.keep("a first wins 2")
            return {"x": given}
        self.assertIs(desk.attempt(action)["x"], given)
        self.assertIs(given[0], desk)
        self.assertEqual((desk.names(), desk.promises()), (("b", "a"), ("a first wins 2",)))
        desk.undo()
        self.assertEqual((desk.names(), desk.promises()), (("a",), ("a first wins 1",)))
        desk.redo()
        self.assertEqual(desk.names(), ("b", "a"))

    def test_errors_go_on_and_nothing_stays(self):
        desk = desk_of(a=TWO)
        desk.keep("a first wins 1")
        desk.put("b", TWO)
        desk.undo()
        before = look_of(desk)
        stop = Stop("x")
        for call in (desk.attempt, desk.trial):
            for error in (stop, KeyboardInterrupt(), SystemExit(), ZeroDivisionError(), NoName("q")):
                def action(inner, error=error):
                    inner.put("c", TWO)
                    inner.undo()
                    inner.drop("a")
                    raise error
                try:
                    call(action)
                    self.fail()
                except BaseException as found:
                    self.assertIs(found, error)
                self.assertEqual(look_of(desk), before)
            raises(self, BadText(1, 1), call, lambda inner: (inner.drop("a"), inner.put("x", "")))
            self.assertIs(type(error_of(call, None)), TypeError)
            self.assertEqual(look_of(desk), before)
        self.assertEqual(not_kept(self, "a first wins 1", desk.attempt, lambda inner: inner.put("a", TWO.replace("least", "most"))), 1)
        raises(self, BadPromise(3), desk.attempt, lambda inner: inner.put("a", HEAT))
        self.assertEqual(look_of(desk), before)
        desk.redo()
        self.assertEqual(desk.names(), ("a", "b"))

    def test_keep_is_looked_at_everywhere(self):
        desk = desk_of(a=TWO)

        def action(inner):
            self.assertEqual(not_kept(self, "a first wins 3", inner.keep, "a first wins 3"), 3)
            raises(self, BadPromise(4), inner.keep, "a first wins x")
            inner.keep("a first wins 1")
            inner.put("a", THREE)
            inner.keep("a first wins 3")
            return inner.promises()
        for call in (desk.attempt, desk.trial):
            self.assertEqual(call(action), ("a first wins 1", "a first wins 3"))
            desk.put("a", TWO) if call == desk.trial else [desk.undo()]
        self.assertEqual(desk.promises(), ())

    def test_undo_and_redo_within(self):
        desk = desk_of(a=TWO, b=TWO)
        desk.undo()

        def action(inner):
            raises(self, NothingToUndo(), inner.undo)
            raises(self, NothingToRedo(), inner.redo)
            inner.put("c", TWO)
            inner.put("d", TWO)
            inner.undo()
            inner.attempt(lambda own: (raises(self, NothingToUndo(), own.undo), raises(self, NothingToRedo(), own.redo), own.put("e", TWO)))
            raises(self, NothingToRedo(), inner.redo)
            self.assertEqual(inner.names(), ("a", "c", "e"))
            inner.undo()
            self.assertEqual(inner.names(), ("a", "c"))
            inner.redo()
            inner.trial(lambda own: (raises(self, NothingToUndo(), own.undo), own.drop("a"), own.undo(), own.redo()))
            self.assertEqual(inner.names(), ("a", "c", "e"))
            inner.undo()
            inner.undo()
            raises(self, NothingToUndo(), inner.undo)
            inner.redo()
            return inner.names()
        self.assertEqual(desk.trial(action), ("a", "c"))
        self.assertEqual(desk.names(), ("a",))
        desk.redo()
        desk.undo()
        self.assertEqual(desk.attempt(action), ("a", "c"))
        raises(self, NothingToRedo(), desk.redo)
        desk.undo()
        self.assertEqual(desk.names(), ("a",))

    def test_trials_leave_nothing(self):
        desk = desk_of(a=TWO, b=TWO, c=TWO)
        desk.keep("a like b")
        desk.undo()
        desk.undo()
        before = look_of(desk)

        def action(inner):
            inner.put("a", HEAT)
            inner.attempt(lambda own: own.drop("b"))
            inner.trial(lambda own: own.drop("a"))
            return look_of(inner)[:2]
        self.assertEqual(desk.trial(action), (("a",), ()))
        self.assertEqual(look_of(desk), before)
        desk.redo()
        desk.redo()
        self.assertEqual((desk.names(), desk.promises()), (("a", "b", "c"), ("a like b",)))
        # Within a trial no promise is looked at, at the end of an attempt neither.
        self.assertEqual(desk.trial(lambda inner: inner.attempt(lambda own: own.put("a", HEAT))), None)
        not_kept(self, "a like b", desk.attempt, lambda inner: (inner.trial(lambda own: own.drop("a")), inner.put("a", HEAT)))

    def test_only_outermost_attempts_are_looked_at(self):
        desk = desk_of(a=TWO)
        desk.keep("a first wins 1")

        def action(inner):
            inner.attempt(lambda own: own.put("a", HEAT))
            self.assertEqual(inner.text("a"), game_text(game_of(HEAT)))
            inner.attempt(lambda own: own.put("a", THREE))
        desk.attempt(action)
        self.assertEqual(desk.text("a"), game_text(game_of(THREE)))


class Histories(unittest.TestCase):
    def test_two_desks_by_turns(self):
        chance = rng(861)
        told = {}
        for _ in range(400):
            pairs = [(Desk(), PlainDesk()) for _ in range(2)]
            for _ in range(45):
                desk, plain = chance.choice(pairs)
                deed = some_deed(chance, desk)
                before = look_of(desk)
                found, wanted = do(desk, deed), do(plain, deed)
                self.assertEqual(found, wanted, deed)
                self.assertEqual(look_of(desk), look_of(plain), deed)
                if found[0] != "told":
                    self.assertEqual(look_of(desk), before)
                elif deed[0] not in ("attempt", "trial"):
                    self.assertIsNone(found[1])
                key = (deed[0], found[0])
                told[key] = told.get(key, 0) + 1
                self.assertEqual(desk.broken(), ())
        for key in (("put", "told"), ("put", "BadText"), ("put", "BadName"), ("put", "NotKept"), ("put", "BadPromise"), ("edit", "told"), ("edit", "BadText"),
                    ("edit", "BadNumber"), ("edit", "NoName"), ("rename", "told"), ("rename", "TakenName"), ("rename", "BadName"), ("rename", "NoName"),
                    ("drop", "told"), ("drop", "NoName"), ("keep", "told"), ("keep", "NotKept"), ("keep", "BadPromise"), ("keep", "TooMany"), ("release", "NoName"),
                    ("undo", "told"), ("undo", "NothingToUndo"), ("redo", "told"), ("redo", "NothingToRedo"), ("attempt", "told"), ("attempt", "Stop"),
                    ("trial", "told"), ("trial", "Stop")):
            self.assertGreater(told.get(key, 0), 0, (key, told))


class Sizes(unittest.TestCase):
    def test_a_full_desk(self):
        text = "game a\npiece p from 1 to 6\nfor k from 1 to 3\nfirst x\nwhen count least k\nthen count less k\nthen p is k\nend\nsecond y\nwhen count least k\n" \
               "when p not k\nthen count less k\nend\nend\ngoal\nwhen count rest 4 {0}\nwhen p is 2\nend\n"
        begin = time.process_time()
        desk = Desk()
        for at in range(6):
            desk.put(f"g{at}", text.format(at % 2))
        for at in range(6):
            desk.keep(f"g{at} like g{(at + 2) % 6}")
        desk.keep("g0 first 1 inside g2 first 1")
        desk.keep("g1 second 1 inside g3 second 1")
        self.assertEqual(len(desk.promises()), 8)
        for at in range(32):
            name = f"g{at % 6}"
            desk.attempt(lambda inner: (inner.rename(name, "other"), inner.put("other", text.format(at % 2)), inner.rename("other", name)))
            desk.undo()
            desk.redo()
        self.assertEqual(desk.broken(), ())
        self.assertEqual(desk.settled().promises(), desk.promises())
        self.assertLess(time.process_time() - begin, 60)

    def test_names_that_are_known_words(self):
        desk = Desk()
        for name in ("wins", "safe", "like", "never", "inside", "first", "second"):
            raises(self, BadName(name), desk.put, name, TWO)
        desk.put("winsx", "game g\npiece safe1 is like1 never1\nfirst inside1\nend\n")
        self.assertEqual(desk.asked("winsx inside1 never")[0], False)
        self.assertEqual(desk.asked("winsx second like1 wins 0"), (True, None))
        raises(self, BadPromise(3), desk.asked, "winsx second wins 0")
        self.assertTrue(desk.winners("winsx", ("first", "never1")) == every(1, 0))


if __name__ == "__main__":
    unittest.main()
