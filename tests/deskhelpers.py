"""[84] to [92] word by word: promises, a plain desk, its journal, and histories by chance."""

import re

from anylead.alike import is_alike
from anylead.errors import (BadName, BadNumber, BadPromise, BadText, LeadError, NoName, NotKept, NothingToRedo, NothingToUndo, TakenName,
                            TooMany)
from anylead.gamebooks import book_of, never_open
from anylead.games import game_of, game_text, place_of, standings, state_of
from anylead.meaning import counted, moves_from
from anylead.roundtexts import read_rounds
from anylead.winners import winners_at
from gamehelpers import name_plainly

TAKE = "game take\nfor k from 1 to {0}\nfirst f\nwhen count least k\nthen count less k\nend\nsecond s\nwhen count least k\nthen count less k\nend\nend\n"
TWO, THREE = TAKE.format(2), TAKE.format(3)
# FIRST goes down to the goals at multiples of 3, if the piece is hot; SECOND may cool it at even counts.
HEAT = """game heat
piece p is hot cold
first down
 then count less 1
end
second cool
 when count rest 2 0
 then p is cold
end
second wait
end
first never1
 when count least 3
 when count most 2
end
goal
 when p is hot
 when count rest 3 0
end
"""
STEPS = "game steps\npiece k from 0 to 2\nfirst up\nthen k more 1\nend\nsecond s\nthen count less k\nend\ngoal\nwhen k is 2\nwhen count most 0\nend\n"
PLAIN = "game plain\nfirst x\nend\nsecond y\nend\n"
GREAT = "game great\npiece p from 1 to 12\npiece q is b c\nfirst x\nend\n"
WIDE = "game wide\npiece p from 1 to 3\nfirst x\nwhen count rest 26 3\nend\n"
MANY = HEAT + "for v from 1 to 30\nfor w from 1 to 2\ngoal\nend\nend\nend\n"
TEXTS = (TWO, THREE, HEAT, STEPS, PLAIN)


def deeds_sum(deed, ahead):
    return (31 * ahead + sum(ord(sign) * at for at, sign in enumerate(deed, start=1))) % 9973


def journal_plainly(deeds):
    told, ahead = "", 0
    for deed in deeds:
        ahead = deeds_sum(deed, ahead)
        told += f"{deed} {ahead}\n"
    return told


def body_plainly(text):
    return " ; ".join(" ".join(line.split()) for line in text.split("\n") if line.split())


def is_set_text(word):
    """Whether the word is a text of a set, by [20]."""
    item = r"(0|-?[1-9][0-9]{0,5})(\.\.(0|-?[1-9][0-9]{0,5})|[+-][1-9][0-9]{0,3})?"
    return re.fullmatch(f"none|all|{item}(,{item})*", word, re.ASCII) is not None


def wrong_word(games, promise):
    """[85]: the column of the first wrong word; None for a promise about the games (a dict by names)."""
    words = [word for word in promise.split(" ") if word]

    def standing(game):
        yield lambda word: word in ("first", "second")
        for _, values in game.pieces:
            texts = [str(value) for value in values]
            yield lambda word: word in texts

    def asking():
        game = games[(yield lambda word: word in games)]
        rules = [line.split()[1] for line in game_text(game).split("\n") if line.split()[:1] in (["first"], ["second"])]
        second = yield lambda word: word in ("first", "second", "like") or word in rules
        if second == "like":
            yield lambda word: word in games
        elif second in rules:
            yield lambda word: word == "never"
        else:
            for may_stand in list(standing(game))[1:]:
                yield may_stand
            kind = yield lambda word: word in ("wins", "safe", "inside")
            if kind == "inside":
                other = games[(yield lambda word: word in games)]
                for may_stand in standing(other):
                    yield may_stand
            else:
                yield is_set_text
        yield None

    asked = asking()
    may_stand = next(asked)
    for column, word in enumerate(words, start=1):
        if may_stand is None or not may_stand(word):
            return column
        may_stand = asked.send(word)
    return None if may_stand is None else len(words) + 1


class Promise:
    """What a right promise tells of games."""

    def __init__(self, games, words):
        self.one = games[words[0]]
        self.words = words
        if words[1] == "like":
            self.kind, self.other = "like", games[words[2]]
        elif words[-1] == "never":
            self.kind = "never"
        else:
            many = 1 + len(self.one.pieces)
            self.kind = words[1 + many]
            self.start = self.place(self.one, words[1:1 + many])
            if self.kind == "inside":
                self.other = games[words[2 + many]]
                self.target = self.place(self.other, words[3 + many:])

    def place(self, game, words):
        return [[str(value) for value in row] for row in standings(game)].index(list(words))

    def sets(self):
        """The counts that the promise is about, and those at which it holds."""
        won = winners_at(book_of(self.one), self.start)
        if self.kind == "inside":
            return won, winners_at(book_of(self.other), self.target)
        counts = read_rounds(self.words[-1])
        return counts, won if self.kind == "wins" else ~won

    def kept(self):
        if self.kind == "like":
            one, other = book_of(self.one), book_of(self.other)
            return one.places == other.places and all(is_alike(one, place, other, place) for place in range(one.places))
        if self.kind == "never":
            return self.words[1] in never_open(self.one)
        asked, held = self.sets()
        return asked.within(held)

    def is_shown(self, witness):
        """Whether the witness shows that the promise is not kept."""
        if self.kind == "like":
            one, other = book_of(self.one), book_of(self.other)
            unlike = [place for place in range(one.places) if one.places == other.places and not is_alike(one, place, other, place)]
            return witness == (unlike[0] if unlike else None) and (one.places != other.places or bool(unlike))
        if self.kind == "never":
            standing, n = state_of(self.one, witness)
            return any(row[0] == self.words[1] for row in moves_from(self.one, standing, n))
        asked, held = self.sets()
        return type(witness) is int and witness in asked and witness not in held


class PlainDesk:
    """[86] to [92], by copies of all that stands there."""

    def __init__(self):
        self.items, self.kept, self.past, self.future, self.deeds, self.around, self.base = {}, [], [], [], [], [], []

    def state(self):
        return dict(self.items), list(self.kept)

    def set_state(self, state):
        self.items, self.kept = dict(state[0]), list(state[1])

    def games(self):
        return {name: game_of(text) for name, text in self.items.items()}

    def ask(self, promise):
        if not isinstance(promise, str):
            raise BadPromise(0)
        games = self.games()
        column = wrong_word(games, promise)
        if column is not None:
            raise BadPromise(column)
        told = Promise(games, [word for word in promise.split(" ") if word])
        if told.kind in ("wins", "safe"):
            read_rounds(told.words[-1])
        book_of(told.one)
        if told.kind in ("inside", "like"):
            book_of(told.other)
        return told.kept()

    def look(self):
        for promise in self.kept:
            if not self.ask(promise):
                raise NotKept(promise, None)

    def edited(self, before, deed):
        if not self.around:
            try:
                self.look()
            except LeadError:
                self.set_state(before)
                raise
        self.past.append(before)
        self.future = []
        self.deeds.append(deed)

    def put(self, name, text, deed=None):
        if not name_plainly(name):
            raise BadName(name)
        before = self.state()
        self.items[name] = game_text(game_of(text))
        self.edited(before, deed or " ".join(["put", name, ":"] + body_plainly(text).split()))

    def item(self, name):
        if not isinstance(name, str) or name not in self.items:
            raise NoName(name)
        return self.items[name]

    def edit(self, name, line, text):
        lines = self.item(name).split("\n")[:-1]
        if type(line) is not int or not 1 <= line <= len(lines) + 1:
            raise BadNumber("line", line)
        if not isinstance(text, str):
            raise BadText(0, 0)
        new = text.split("\n")
        if new[-1] == "":
            new = new[:-1]
        lines[line - 1:line] = new
        self.put(name, "".join(each + "\n" for each in lines), " ".join(["edit", name, str(line), ":"] + body_plainly(text).split()))

    def about(self, promise):
        """The indices of the words that stand for items."""
        words = promise.split()
        return [0] + [at + 1 for at, word in enumerate(words) if word in ("like", "inside")]

    def rename(self, name, new):
        self.item(name)
        if not name_plainly(new):
            raise BadName(new)
        if new in self.items:
            raise TakenName(new)
        before = self.state()
        self.items = {new if each == name else each: text for each, text in self.items.items()}
        self.kept = [" ".join(new if at in self.about(each) and word == name else word for at, word in enumerate(each.split()))
                     for each in self.kept]
        self.edited(before, f"rename {name} {new}")

    def drop(self, name):
        self.item(name)
        before = self.state()
        del self.items[name]
        self.kept = [each for each in self.kept if name not in [each.split()[at] for at in self.about(each)]]
        self.edited(before, f"drop {name}")

    def keep(self, promise):
        kept = self.ask(promise)
        plain = " ".join(word for word in promise.split(" ") if word)
        if not kept:
            raise NotKept(plain, None)
        before = self.state()
        if plain not in self.kept:
            self.kept.append(plain)
        self.edited(before, "keep : " + plain)

    def release(self, promise):
        plain = " ".join(word for word in promise.split(" ") if word) if isinstance(promise, str) else None
        if plain not in self.kept:
            raise NoName(promise)
        before = self.state()
        self.kept.remove(plain)
        self.edited(before, "release : " + plain)

    def undo(self):
        if not self.past:
            raise NothingToUndo()
        self.future.append(self.state())
        self.set_state(self.past.pop())
        self.deeds.append("undo")

    def redo(self):
        if not self.future:
            raise NothingToRedo()
        self.past.append(self.state())
        self.set_state(self.future.pop())
        self.deeds.append("redo")

    def within(self, action, trial):
        saved = self.state(), list(self.past), list(self.future), list(self.deeds)
        self.base = self.base if self.around else list(self.deeds)
        self.past, self.future, self.deeds = [], [], []
        self.around.append(trial)
        depth = len(self.around)
        inner = None
        try:
            result = action(self)
            if not trial:
                if depth == 1:
                    self.look()
                inner = self.state(), list(self.deeds)
            return result
        finally:
            del self.around[depth - 1:]
            self.set_state(saved[0])
            self.past, self.future, self.deeds = saved[1:]
            if inner:
                self.past.append(saved[0])
                self.future = []
                self.set_state(inner[0])
                self.deeds += ["begin"] + inner[1] + ["close"]

    def attempt(self, action):
        return self.within(action, False)

    def trial(self, action):
        return self.within(action, True)

    def names(self):
        return tuple(self.items)

    def promises(self):
        return tuple(self.kept)

    def text(self, name):
        return self.item(name)

    def journal(self):
        return journal_plainly(self.base if self.around else self.deeds)


class Stop(Exception):
    """An error of the caller's own."""


NAMES = ("a", "b", "c", "hot", "f", "x1")
BAD_NAMES = ("wins", "like", "first", "A", "", "a b", None, 3, "abcdefghijklm")
PROMISES = ("{0} first wins 1+3,2+3", "{0} first wins 1..3", "{0}  second safe  1,2", "{0} second wins 0+4", "{0} first safe 0+12",
            "{0} first inside {1} first", "{0} second inside {1} second", "{0} like {1}", "{1} like {0}", "{0} f never", "{0} never1 never",
            "{0} first hot wins 0..9", " {0} second hot safe 2+6 ", "{0} first 0 wins none", "{0} second 1 safe all", "{0} first cold inside {1} first hot",
            "{0} first 2 inside {1} first 2", "{0} first hot inside {1} first hot", "{0} second hot wins 0+6", "{0} first safe 1..30,5+3",
            "{0} second safe 1+3,2+3", "{0} first wins none", "{0} second safe none")
BAD_PROMISES = ("", " ", "zz first wins 1", "{0}", "{0} first", "{0} first wins", "{0} first wins x", "{0} first wins 1 2", "{0} like", "{0} like zz",
                "{0} f", "{0} first wins 0,20001", "{0} first wins 1+9000,1+7000", "{0} like {1} {1}", None, 5, "{0} first hot", "{0} first hot inside {1}",
                "{0} never", "{0}\tfirst wins 1", "{0} first hot wins 01")


def fitting_promise(chance, desk, name, other):
    """A promise about items of the desk, kept more often than not."""
    standing = chance.choice(standings(desk.game(name)))
    start = " ".join([name] + [str(value) for value in standing])
    pick = chance.random()
    if pick < 0.25:
        return f"{name} like {other}"
    if pick < 0.4:
        target = chance.choice(standings(desk.game(other)))
        return " ".join([start, "inside", other] + [str(value) for value in (target if name != other else standing)])
    if pick < 0.5:
        return name + chance.choice([" never1", " f", " x", " s"]) + " never"
    won = desk.winners(name, standing)
    kind = chance.choice(["wins", "safe"])
    counts = [str(n) for n in range(-3, 9) if (n in won) == (kind == "wins")]
    counts = chance.sample(counts, min(len(counts), 3)) + (["4"] if chance.random() < 0.1 else [])
    return f"{start} {kind} {','.join(counts) or 'none'}"


def some_deed(chance, desk, depth=0):
    """An action of a history: the name of a method and its arguments; those of attempt and trial are actions and how they end.

    Names and promises that stand at the desk are taken more often."""
    pick = chance.random()
    names, kept = desk.names(), desk.promises()
    pool = list(names) * 4 + list(NAMES)
    name, other = chance.choice(pool), chance.choice(pool)
    if pick < 0.17:
        texts = list(TEXTS) * 3 + ["game", None, THREE.replace("\n", "\n \n  "), HEAT + "\n\n"] + [MANY] * (depth > 0)
        return "put", chance.choice([name] * 9 + list(BAD_NAMES[:2])), chance.choice(texts)
    if pick < 0.29:
        line = chance.choice([chance.randint(1, 12)] * 6 + [0, -1, 99, True, None, "1"])
        text = chance.choice(["", "\n", "when count least 2", " when  count least k", "then count less 2\n\n", "for k from 1 to 3", "for k from 1 to 2", "end\n", "x",
                              "first z\nend", "game  b", "goal\nend\n", "piece p is hot cold warm", None, 5, "then again"])
        return "edit", name, line, text
    if pick < 0.36:
        return "rename", name, chance.choice([chance.choice(NAMES)] * 6 + list(BAD_NAMES))
    if pick < 0.40:
        return "drop", name
    if pick < 0.66:
        if kept and chance.random() < 0.25:
            return chance.choice(["keep", "release"]), chance.choice(kept).replace(" ", "  ")
        promise = chance.choice(PROMISES * 3 + BAD_PROMISES)
        if chance.random() < 0.6 and name in names and other in names:
            if max(counted(desk.game(each))[1] for each in (name, other)) <= 60:
                promise = fitting_promise(chance, desk, name, other)
        return chance.choice(["keep"] * 9 + ["release"]), promise.format(name, other) if isinstance(promise, str) else promise
    if pick < 0.74:
        return ("undo",)
    if pick < 0.82:
        return ("redo",)
    if depth > 2:
        return "put", name, chance.choice(TEXTS)
    inner = [some_deed(chance, desk, depth + 1) for _ in range(chance.randint(0, 5))]
    return chance.choice(["attempt", "attempt", "trial"]), inner, [chance.random() < 0.85 for _ in range(5)], chance.choice(["well"] * 4 + ["stop"])


def do(desk, deed):
    """Does an action at a desk; what it told, or which error it raised, with its fields but for free ones."""
    try:
        return "told", run(desk, deed)
    except (LeadError, Stop) as error:
        fields = {name: value for name, value in vars(error).items() if name != "witness"}
        return type(error).__name__, fields


def run(desk, deed):
    if deed[0] not in ("attempt", "trial"):
        return getattr(desk, deed[0])(*deed[1:])
    _, inner, caught, end = deed

    def action(given):
        assert given is desk
        seen = []
        for each, is_caught in zip(inner, caught):
            seen.append(do(desk, each) if is_caught else run(desk, each))
            seen.append((desk.names(), desk.promises(), [desk.text(name) for name in desk.names()], desk.journal()))
        if end == "stop":
            raise Stop()
        return seen
    return getattr(desk, deed[0])(action)


def look_of(desk):
    return desk.names(), desk.promises(), [desk.text(name) for name in desk.names()], desk.journal()
