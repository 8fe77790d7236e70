"""[89] to [92]: journals, and desks that do them again."""

import copy
import re
import time
import unittest

from anylead.desk import Desk
from anylead.errors import BadNumber, BadText, LeadError, NothingToUndo
from anylead.games import game_text, game_of
from anylead.journal import mended, replayed, sum_of
from deskhelpers import (GREAT, HEAT, PLAIN, THREE, TWO, PlainDesk, Stop, body_plainly, deeds_sum, do, journal_plainly, look_of, run, some_deed)
from helpers import FAR, NO_INTEGERS, error_of, raises, rng

NO_STRINGS = (None, 5, True, b"undo", ["undo"], ("undo",), 1.5, {}, object())


def form_of(deed):
    """The words of a deed in just the form of [89] as a call; None for what is none."""
    name = "[^ \n]+"
    if deed in ("undo", "redo", "begin", "close"):
        return (deed,)
    found = re.fullmatch(f"rename ({name}) ({name})|drop ({name})", deed)
    if found:
        return ("rename", found[1], found[2]) if found[1] else ("drop", found[3])
    found = re.fullmatch(f"(keep|release) :((?: {name})*)", deed)
    if found:
        return found[1], found[2][1:]
    found = re.fullmatch(f"(put|edit) ({name})(?: (0|-?[1-9][0-9]*))? :((?: {name})*)", deed)
    if not found or (found[1] == "edit") != (found[3] is not None):
        return None
    words = found[4].split(" ")[1:]
    if words and (words[0] == ";" or words[-1] == ";" or "; ;" in found[4]):
        return None
    text = "".join(("\n" if word == ";" else " " + word) for word in words)
    return ("put", found[2], text) if found[1] == "put" else ("edit", found[2], int(found[3]), text)


def mended_plainly(text):
    """[91], with a plain desk."""
    desk, around = PlainDesk(), []
    ahead, read, best, left = 0, 0, 0, copy.deepcopy(desk)
    for line in text.split("\n")[:-1]:
        deed, gap, told = line.rpartition(" ")
        call = form_of(deed)
        if call is None or not gap or told != str(deeds_sum(deed, ahead)):
            break
        ahead = deeds_sum(deed, ahead)
        try:
            if call == ("begin",):
                around.append(copy.deepcopy(desk))
                desk.past, desk.future, desk.deeds = [], [], []
                desk.around.append(False)
            elif call == ("close",):
                if not around:
                    break
                inner, desk = desk, around.pop()
                if not around:
                    inner.look()
                desk.past.append(desk.state())
                desk.future = []
                desk.deeds += ["begin"] + inner.deeds + ["close"]
                desk.set_state(inner.state())
            else:
                getattr(desk, call[0])(*call[1:])
        except LeadError:
            break
        read += len(line) + 1
        if not around:
            best, left = read, copy.deepcopy(desk)
    return text[:best], left


def with_sums(deeds):
    return journal_plainly(deeds)


def some_desk(chance, many):
    desk = Desk()
    for _ in range(many):
        do(desk, some_deed(chance, desk))
    return desk


class Lines(unittest.TestCase):
    def check(self, desk, deeds):
        self.assertEqual(desk.journal(), journal_plainly(deeds))

    def test_each_deed(self):
        desk = Desk()
        deeds = []
        for call, deed in (((desk.put, "a", "\n\n  game   a \n\n first  x\nend  \n\n"), "put a : game a ; first x ; end"),
                           ((desk.put, "b", "game b"), "put b : game b"), ((desk.edit, "a", 2, "first  y\n\n"), "edit a 2 : first y"),
                           ((desk.edit, "a", 4, "\n \ngoal\n\n\nend\n\n"), "edit a 4 : goal ; end"), ((desk.edit, "a", 4, ""), None),
                           ((desk.edit, "a", 4, "goal\n when  turn is first"), "edit a 4 : goal ; when turn is first"),
                           ((desk.edit, "a", 5, ""), "edit a 5 :"), ((desk.edit, "a", 6, "\n\n  \n"), "edit a 6 :"),
                           ((desk.keep, "  b like   b "), "keep : b like b"), ((desk.keep, "b like b"), "keep : b like b"), ((desk.put, "b", "game"), None),
                           ((desk.rename, "b", "c"), "rename b c"), ((desk.release, " c  like c"), "release : c like c"), ((desk.undo,), "undo"),
                           ((desk.undo,), "undo"), ((desk.redo,), "redo"), ((desk.redo,), "redo"), ((desk.redo,), None), ((desk.drop, "c"), "drop c"),
                           ((desk.drop, "c"), None), ((desk.keep, "a x"), None), ((desk.attempt, lambda inner: 5), "begin close")):
            error = error_of(*call)
            self.assertEqual(error is None, deed is not None, call)
            deeds += [] if deed is None else ["begin", "close"] if deed == "begin close" else [deed]
            self.check(desk, deeds)
        self.assertTrue(replayed(desk.journal()).journal() == desk.journal())

    def test_attempts(self):
        desk = Desk()
        desk.put("a", "game a")
        deeds = ["put a : game a"]

        def inner(own):
            own.put("c", "game c")
            error_of(own.undo)
            error_of(own.redo)
            self.assertEqual(desk.journal(), journal_plainly(deeds))

        def action(own):
            own.rename("a", "b")
            own.attempt(inner)
            error_of(own.attempt, lambda each: (each.drop("b"), each.put("x", "")))
            own.trial(inner)
            own.drop("b")
            own.undo()
            self.assertEqual(desk.journal(), journal_plainly(deeds))
        desk.attempt(action)
        deeds += ["begin", "rename a b", "begin", "put c : game c", "undo", "redo", "close", "drop b", "undo", "close"]
        self.check(desk, deeds)
        desk.trial(action := lambda own: (own.put("z", "game z"), own.attempt(lambda each: each.drop("z")), self.check(desk, deeds)))
        error_of(desk.attempt, lambda own: (own.put("z", "game z"), own.put("z", "")))
        self.check(desk, deeds)
        desk.undo()
        self.check(desk, deeds + ["undo"])

    def test_sums(self):
        self.assertEqual(sum_of("", 0), 0)
        self.assertEqual(sum_of("undo", 0), (117 + 2 * 110 + 3 * 100 + 4 * 111) % 9973)
        self.assertEqual(sum_of("undo", 9972), (31 * 9972 + 1081) % 9973)
        self.assertEqual(sum_of("\u20ac", 3), (93 + 8364) % 9973)
        self.assertEqual(sum_of("z" * 20000, 1), (31 + 122 * 20000 * 20001 // 2) % 9973)
        chance = rng(901)
        for _ in range(300):
            deed = "".join(chr(chance.randint(32, 126)) for _ in range(chance.randint(1, 300)))
            ahead = chance.randint(0, 9972)
            self.assertEqual(sum_of(deed, ahead), deeds_sum(deed, ahead))
            at = chance.randrange(len(deed))
            other = deed[:at] + chr((ord(deed[at]) + chance.randint(1, 5000))) + deed[at + 1:]
            self.assertNotEqual(sum_of(other, ahead), sum_of(deed, ahead))
        desk = Desk()
        desk.put("a", "game a")
        desk.undo()
        first = sum_of("put a : game a", 0)
        self.assertEqual(desk.journal(), f"put a : game a {first}\nundo {sum_of('undo', first)}\n")
        for value in NO_STRINGS:
            raises(self, BadText(0, 0), sum_of, value, None)
        for ahead in NO_INTEGERS + (-1, 9973, FAR):
            raises(self, BadNumber("ahead", ahead), sum_of, "undo", ahead)

    def test_settled(self):
        chance = rng(921)
        many = 0
        for _ in range(60):
            desk = some_desk(chance, 30)
            before = look_of(desk)
            other = desk.settled()
            self.assertIs(type(other), Desk)
            self.assertEqual(look_of(other)[:3], before[:3])
            deeds = ["put " + name + " : " + body_plainly(desk.text(name)) for name in desk.names()] + ["keep : " + each for each in desk.promises()]
            self.assertEqual(other.journal(), journal_plainly(deeds))
            for _ in deeds:
                other.undo()
            raises(self, NothingToUndo(), other.undo)
            self.assertEqual((other.names(), other.promises()), ((), ()))
            self.assertEqual(look_of(desk), before)
            many += len(desk.promises())
        self.assertGreater(many, 10)


class Mended(unittest.TestCase):
    def same(self, text):
        told = mended(text)
        wanted, plain = mended_plainly(text)
        self.assertEqual(told, wanted)
        desk = replayed(text)
        self.assertIs(type(desk), Desk)
        self.assertEqual(look_of(desk), look_of(plain))
        self.assertEqual(desk.journal(), told)
        return told, desk, plain

    def test_whole_journals(self):
        chance = rng(911)
        attempts = 0
        for _ in range(60):
            desk = some_desk(chance, 30)
            text = desk.journal()
            attempts += text.count("begin")
            told, other, plain = self.same(text)
            self.assertEqual((told, mended(told)), (text, text))
            self.assertEqual(look_of(other), look_of(desk))
            for _ in range(10):
                deed = some_deed(chance, desk)
                self.assertEqual(do(other, deed), do(desk, deed))
                self.assertEqual(look_of(other), look_of(desk))
            while error_of(desk.undo) is None:
                other.undo()
                self.assertEqual(look_of(other), look_of(desk))
            raises(self, NothingToUndo(), other.undo)
            while error_of(desk.redo) is None:
                other.redo()
                self.assertEqual(look_of(other), look_of(desk))
        self.assertGreater(attempts, 40)

    def test_cut_at_each_character(self):
        chance = rng(912)
        for _ in range(4):
            desk = Desk()
            marks = {"": look_of(desk)}
            while len(desk.journal()) < 900:
                do(desk, some_deed(chance, desk))
                marks[desk.journal()] = look_of(desk)
            text = desk.journal()
            for at in range(len(text) + 1):
                told = mended(text[:at])
                self.assertEqual(told, max((mark for mark in marks if len(mark) <= at), key=len))
                if at % 7 == 0 or text[at - 1:at] == "\n":
                    self.assertEqual(look_of(replayed(text[:at])), marks[told])
                    self.assertEqual(mended(told), told)

    def test_bent_texts(self):
        chance = rng(913)
        lengths = {}
        for _ in range(120):
            text = some_desk(chance, 20).journal()
            for _ in range(8):
                lines = text.split("\n")
                kind = chance.randrange(7)
                at, other = chance.randrange(len(lines)), chance.randrange(len(lines))
                if kind == 0:
                    lines[at], lines[other] = lines[other], lines[at]
                elif kind == 1:
                    del lines[at]
                elif kind == 2:
                    lines.insert(at, lines[other])
                elif kind == 3:
                    lines[at] = lines[at].replace(" ", "  ", 1)
                elif kind == 4:
                    lines.insert(at, chance.choice(["", " ", "undo 1081", "begin", "close 0", "x 120", "undo", "1081"]))
                elif kind == 5:
                    where = chance.randrange(len(text) + 1)
                    lines = (text[:where] + chance.choice("abz 059;:\n\t") + text[where + 1:]).split("\n")
                else:
                    where = chance.randrange(len(text) + 1)
                    lines = (text[:where] + chance.choice(" a5\n") + text[where:]).split("\n")
                bent = "\n".join(lines)
                told, _, _ = self.same(bent)
                self.assertTrue(bent.startswith(told))
                self.assertEqual(mended(told), told)
                lengths[len(told) == len(bent)] = lengths.get(len(told) == len(bent), 0) + 1
        self.assertGreater(lengths[False], 400)

    def test_deeds_with_right_sums_that_can_not_be_done(self):
        good = ["put a : game a ; first x ; end"]
        chance = rng(914)
        bad = ["", "Undo", "undo ", " undo", "undo undo", "redo", "redo ", "close", "close ", "begin ", "put", "put b", "put b :", "put b : ", "put b game b", "put b: game b",
               "put  b : game b", "put b :  game b", "put b : game  b", "put b : game b ", "put b : game b ;", "put b : ; game b", "put b : game b ; ; goal ; end",
               "put b : game b ;goal ; end", "put B : game b", "put first : game b", "put b : game", "put b : game b\tc", "edit a", "edit a 2", "edit a 2 ", "edit a 02 : first y",
               "edit a +2 : first y", "edit a 2: first y", "edit a 2 : first  y", "edit a 2 : first y ;", "edit a 2 first y", "edit a 9 : first y", "edit a 0 : first y",
               "edit a -1 : first y", "edit b 2 : first y", "edit a x : first y", "edit a 2 :", "edit a 2 : ", "edit a 4 : ", "edit a True : x", "rename a", "rename a a",
               "rename a B", "rename a b c", "rename  a b", "rename b a", "rename a b ", "drop", "drop b", "drop a b", "drop  a", "drop a ", "keep a like a", "keep :", "keep : ",
               "keep :  a like a", "keep : a  like a", "keep : a like a ", "keep: a like a", "keep : a first wins 0 0", "keep : a first wins 1..2,",
               "keep : a first safe 0,30000", "keep : b like b", "keep : a x never", "release : a like a", "release :", "release", "keep", "begin close", "undo;", "x", "put a",
               "rename", "edit", "edit a 1 :"]
        for deed in bad:
            for more in ([], ["undo"], ["drop a"]):
                told, desk, _ = self.same(with_sums(good + [deed] + more))
                self.assertEqual(told, with_sums(good), deed)
                if deed == "close":
                    continue
                told, desk, _ = self.same(with_sums(good + ["begin", "put c : game c", deed, "close"] + more))
                self.assertEqual(told, with_sums(good), deed)
                self.assertEqual(desk.names(), ("a",))
        for deed in ("undo", "put b : game b", "put a : game b ; goal ; end", "edit a 2 : first y", "edit a 4 :", "edit a 4 : goal ; end", "rename a b", "drop a",
                     "keep : a like a", "keep : a first wins 0", "keep : a second safe none"):
            text = with_sums(good + [deed])
            self.assertEqual(self.same(text)[0], text)
            text = with_sums(good + ["begin", "begin", "close", deed, "close"]) if deed != "undo" else with_sums(good + ["begin", "put b : game b", deed, "close"])
            self.assertEqual(self.same(text)[0], text)
            sums = text.split("\n")
            at = chance.randrange(len(sums) - 1)
            for bent in (sums[at] + "0", sums[at][:-1], sums[at] + " ", "0".join(sums[at].rsplit(" ", 1)), " 0".join(sums[at].rsplit(" ", 1)),
                         " +".join(sums[at].rsplit(" ", 1)), sums[at] + "\r"):
                other = "\n".join(sums[:at] + [bent] + sums[at + 1:])
                self.assertLess(len(self.same(other)[0]), len(text))

    def test_close_without_begin_and_open_attempts(self):
        deeds = ["put a : game a", "begin", "put b : game b", "close"]
        whole = with_sums(deeds)
        for more in (["close"], ["close", "drop a"], ["begin"], ["begin", "drop a"], ["begin", "begin", "drop a", "close"], ["begin", "begin", "close", "close", "close"]):
            told, desk, _ = self.same(with_sums(deeds + more))
            wanted = deeds + (more[:4] if more[:4] == ["begin", "begin", "close", "close"] else [])
            self.assertEqual(told, with_sums(wanted))
            self.assertEqual(desk.names(), ("a", "b"))
        self.assertEqual(mended("close 0\n" + whole), "")
        self.assertEqual(mended(with_sums(["close"])), "")
        self.assertEqual(mended(with_sums(["begin", "close", "close"])), with_sums(["begin", "close"]))
        self.assertEqual(mended(with_sums(["begin", "undo", "close"])), "")

    def test_closes_that_break_a_promise(self):
        desk = Desk()
        desk.put("a", TWO)
        desk.keep("a first wins 1")
        good = ["put a : " + body_plainly(TWO), "keep : a first wins 1"]
        self.assertEqual(desk.journal(), with_sums(good))
        for inner, is_whole in ((["put a : " + body_plainly(HEAT)], False), (["drop a"], True), (["put a : " + body_plainly(THREE)], True),
                                (["begin", "put a : " + body_plainly(HEAT), "close"], False),
                                (["begin", "put a : " + body_plainly(HEAT), "close", "put a : " + body_plainly(TWO)], True),
                                (["put a : " + body_plainly(GREAT)], False), (["put a : " + body_plainly(PLAIN), "release : a first wins 1"], True)):
            text = with_sums(good + ["begin"] + inner + ["close", "undo"])
            self.assertEqual(self.same(text)[0], text if is_whole else with_sums(good))
        text = with_sums(good + ["put a : " + body_plainly(HEAT)])
        self.assertEqual(self.same(text)[0], with_sums(good))

    def test_what_is_no_string(self):
        for value in NO_STRINGS:
            raises(self, BadText(0, 0), mended, value)
            raises(self, BadText(0, 0), replayed, value)
        for text in ("", "\n", "x", "undo", "\n\n", "put a : game a 1\n"):
            self.assertEqual(mended(text), "")
            self.assertEqual(look_of(replayed(text)), ((), (), [], ""))


class Sizes(unittest.TestCase):
    def test_journals_of_80_deeds(self):
        desk = Desk()
        long = "game a\n" + "goal\nwhen count rest 30 29\nthen count more 1\nend\n" * 60
        begin = time.process_time()
        for at in range(6):
            desk.put(f"g{at}", long if at else TWO)
        desk.keep("g0 first wins 1,2")
        for at in range(70):
            desk.edit(f"g{at % 6}", 1, f"game b{at}")
        text = desk.journal()
        self.assertEqual(text.count("\n"), 77)
        self.assertEqual(mended(text), text)
        self.assertEqual(look_of(replayed(text)), look_of(desk))
        self.assertEqual(mended(text[:-5]).count("\n"), 76)
        self.assertEqual(desk.text("g1"), game_text(game_of(long.replace("game a", "game b67"))))
        self.assertLess(time.process_time() - begin, 30)

    def test_errors_of_the_callers_own(self):
        desk = Desk()
        self.assertEqual(do(desk, ("attempt", [("put", "a", TWO)], [True], "stop")), ("Stop", {}))
        self.assertEqual((desk.names(), desk.journal()), ((), ""))
        self.assertIsInstance(error_of(run, desk, ("trial", [], [], "stop")), Stop)


if __name__ == "__main__":
    unittest.main()
