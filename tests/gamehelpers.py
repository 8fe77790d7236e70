"""Games by chance, and [75], [76], [79] and [80] word by word."""

import re

from anylead.games import game_of

KEYWORDS = """game piece turn count is not above below least most rest from to of for first second when then more less again goal
part use end at wins safe inside never like""".split()
INTEGERS = {str(n): n for n in range(-30, 31)}
END = object()


def name_plainly(word):
    return isinstance(word, str) and re.fullmatch("[a-z][a-z0-9]{0,11}", word) is not None and word not in KEYWORDS


class Texts:
    """[75] as a row of questions, each of which words may stand next; right tells whether the text may end."""

    def __init__(self):
        self.right = False
        self.pieces, self.words, self.rules, self.parts = [], [], [], {}

    def one_of(self, *words):
        return lambda word: word in words

    def new_name(self, *taken):
        return lambda word: name_plainly(word) and not any(word in names for names in taken)

    def value(self, names):
        return lambda word: word in INTEGERS or word in ("first", "second") or word in self.pieces + self.words + list(names)

    def text(self):
        yield self.one_of("game")
        yield self.new_name()
        yield self.one_of(END)
        only_pieces = True
        while True:
            allowed = ["first", "second", "goal", "part", "for"]
            if only_pieces and len(self.pieces) < 4:
                allowed.append("piece")
            self.right = True
            word = yield self.one_of(*allowed)
            self.right = False
            if word == "piece":
                yield from self.piece()
            else:
                only_pieces = False
                yield from self.statement(word, [])

    def piece(self):
        name = yield self.new_name(self.pieces, self.words)
        self.pieces.append(name)
        if (yield self.one_of("is", "from")) == "from":
            low = INTEGERS[(yield lambda word: word in INTEGERS)]
            yield self.one_of("to")
            yield lambda word: word in INTEGERS and low <= INTEGERS[word] <= low + 11
            yield self.one_of(END)
            return
        own = [(yield self.new_name(self.pieces))]
        while len(own) < 6:
            word = yield lambda word: word is END or self.new_name(self.pieces, own)(word)
            if word is END:
                break
            own.append(word)
        else:
            yield self.one_of(END)
        self.words += own

    def statement(self, word, known):
        if word == "for":
            yield from self.family(known)
            return
        names = known
        if word in ("first", "second"):
            self.rules.append((yield self.new_name(self.rules)))
        if word == "part":
            name = yield self.new_name(self.parts)
            names = []
            while len(names) < 3:
                param = yield lambda word: word is END or self.new_name(self.pieces, self.words, names)(word)
                if param is END:
                    break
                names.append(param)
            else:
                yield self.one_of(END)
        else:
            yield self.one_of(END)
        while True:
            first = yield self.one_of("when", "then", "end", *(["use"] if self.parts else []))
            if first == "end":
                break
            yield from self.line(first, names)
        yield self.one_of(END)
        if word == "part":
            self.parts[name] = len(names)

    def family(self, known):
        variable = yield self.new_name(self.pieces, self.words, known)
        limit = lambda word: word in INTEGERS or word in known
        if (yield self.one_of("from", *(["of"] if self.pieces else []))) == "of":
            yield self.one_of(*self.pieces)
        else:
            yield limit
            yield self.one_of("to")
            yield limit
        yield self.one_of(END)
        known = known + [variable]
        while True:
            word = yield self.one_of("first", "second", "goal", "end", *(["for"] if len(known) < 2 else []))
            if word == "end":
                break
            yield from self.statement(word, known)
        yield self.one_of(END)

    def line(self, first, names):
        many = 1
        if first == "when":
            thing = yield self.one_of("turn", "count", *self.pieces)
            word = yield self.one_of(*(["least", "most", "is", "not", "rest"] if thing == "count" else ["is", "not", "above", "below"]))
            many = 2 if word == "rest" else 1
        elif first == "then":
            thing = yield self.one_of("count", "again", *self.pieces)
            if thing == "again":
                many = 0
            else:
                yield self.one_of("more", "less", *([] if thing == "count" else ["is"]))
        else:
            many = self.parts[(yield self.one_of(*self.parts))]
        for _ in range(many):
            yield self.value(names)
        yield self.one_of(END)


def wrong_plainly(text):
    """[76]: the line and column of the first wrong word; None for a right text."""
    lines = text.split("\n")
    if lines[-1] == "":
        lines.pop()
    told = Texts()
    asking = told.text()
    may_stand = next(asking)
    for number, line in enumerate(lines, start=1):
        words = [word for word in line.split(" ") if word]
        for column, word in enumerate(words + [END] if words else [], start=1):
            if not may_stand(word):
                return number, column
            may_stand = asking.send(word)
    return None if told.right else (len(lines) + 1, 1)


WORDS = ("red", "blue", "hot", "a1", "b")
PIECES = ("p", "q", "size", "hue")
LOCALS = ("x", "y", "z", "take")


class Writer:
    """Writes the text of a game by chance."""

    def __init__(self, chance, sizes=(0, 1, 2, 2, 3), most_statements=5):
        self.chance = chance
        self.pieces = list(PIECES[:chance.choice(sizes)])
        self.words, self.parts, self.rules = [], {}, 0
        self.lines = ["game " + chance.choice(["g", "heap", "x", "take"])]
        for name in self.pieces:
            if chance.random() < 0.5:
                low = chance.randint(-2, 2)
                self.lines.append(f"piece {name} from {low} to {low + chance.choice([0, 1, 2, 2])}")
            else:
                own = chance.sample(WORDS, chance.randint(1, 3))
                self.words += [word for word in own if word not in self.words]
                self.lines.append(" ".join(["piece", name, "is"] + own))
        for _ in range(chance.randint(1, most_statements)):
            self.statement([])

    def value(self, names):
        pick = self.chance.random()
        if names and pick < 0.35:
            return self.chance.choice(names)
        if self.pieces and pick < 0.5:
            return self.chance.choice(self.pieces)
        if self.words and pick < 0.65:
            return self.chance.choice(self.words)
        return self.chance.choice(["first", "second"]) if pick < 0.7 else str(self.chance.choice([0, 1, 2, 3, 4, -1, -2]))

    def line(self, names):
        chance = self.chance
        sort = chance.choice(["when", "when", "then", "then", "then", "use"])
        if sort == "use" and self.parts:
            part = chance.choice(sorted(self.parts))
            return " ".join(["use", part] + [self.value(names) for _ in range(self.parts[part])])
        if sort == "when":
            thing = chance.choice(["turn", "count", "count", "count"] + self.pieces)
            word = chance.choice(["least", "most", "is", "not", "rest"] if thing == "count" else ["is", "not", "not", "above", "below"])
            return " ".join(["when", thing, word] + [self.value(names) for _ in range(2 if word == "rest" else 1)])
        thing = chance.choice(["again", "count", "count"] + self.pieces)
        if thing == "again":
            return "then again"
        word = chance.choice(["more", "less"] if thing == "count" else ["is", "more", "less"])
        return " ".join(["then", thing, word, self.value(names)])

    def body(self, names, many):
        self.lines += ["  " + self.line(names) for _ in range(self.chance.randint(0, many))] + ["end"]

    def statement(self, known):
        chance = self.chance
        sort = chance.choice(["first", "second", "first", "second", "goal", "for"] + ([] if known else ["part", "part"]))
        if sort == "for" and len(known) < 2:
            new = chance.choice([name for name in LOCALS if name not in known])
            if self.pieces and chance.random() < 0.5:
                self.lines.append(f"for {new} of {chance.choice(self.pieces)}")
            else:
                limits = [chance.choice(known) if known and chance.random() < 0.4 else str(chance.randint(-1, 2)) for _ in range(2)]
                self.lines.append(f"for {new} from {limits[0]} to {limits[1]}")
            for _ in range(chance.randint(0, 2)):
                self.statement(known + [new])
            self.lines.append("end")
        elif sort == "part":
            name = f"take{len(self.parts) or ''}"
            params = chance.sample(LOCALS, chance.randint(0, 3))
            self.lines.append(" ".join(["part", name] + params))
            self.body(params, 3)
            self.parts[name] = len(params)
        elif sort == "goal":
            self.lines.append("goal")
            self.body(known, 2)
        elif sort != "for":
            self.lines.append(f"{sort} r{self.rules}")
            self.rules += 1
            self.body(known, 4)


def some_text(chance, **sizes):
    return "\n".join(Writer(chance, **sizes).lines) + "\n"


def spaced(chance, text):
    """The same text with other spaces and with lines that mean nothing."""
    lines = []
    for line in text.split("\n")[:-1]:
        while chance.random() < 0.15:
            lines.append(" " * chance.randint(0, 2))
        words = line.split()
        lines.append(" " * chance.randint(0, 2) + words[0] + "".join(" " * chance.choice([1, 1, 2, 3]) + word for word in words[1:])
                     + " " * chance.choice([0, 0, 1]))
    return "\n".join(lines) + chance.choice(["", "\n", "\n\n", "\n  \n"])


def some_game(chance, **sizes):
    return game_of(some_text(chance, **sizes))


def instances_plainly(game):
    """[80]: the rows (sort, name, known, lines) of all instances, known being the list of the pairs (variable, value)."""
    pieces = dict(game.pieces)

    def walk(statements, known):
        for statement in statements:
            if statement[0] == "rule":
                yield statement[1], statement[2], known, statement[3]
            elif statement[0] == "goal":
                yield "goal", None, known, statement[1]
            elif statement[0] == "for":
                _, variable, limits, inner = statement
                values = pieces[limits[1]] if limits[0] == "of" else ()
                if limits[0] == "from":
                    low, high = [dict(known).get(limit, limit) for limit in limits[1:]]
                    if type(low) is int and type(high) is int:
                        values = range(low, high + 1)
                for value in values:
                    yield from walk(inner, known + [(variable, value)])

    return list(walk(game.statements, []))


def done_plainly(game, lines, known, standing, n):
    """[79]: the standing, count and turn behind, or None if a line fails."""
    parts = {statement[1]: statement for statement in game.statements if statement[0] == "part"}
    names = [name for name, _ in game.pieces]
    now = {"count": n, "again": False, **dict(zip(names, standing[1:]))}

    def whole(value):
        return type(value) is int

    def goes_on(line, known):
        def named(value):
            return known.get(value, value)

        def worth(value):
            return now[named(value)] if named(value) in names else named(value)

        if line[0] == "use":
            _, _, params, inner = parts[line[1]]
            passed = dict(zip(params, [named(value) for value in line[2:]]))
            return all(goes_on(each, passed) for each in inner)
        if line[:2] == ("then", "again"):
            now["again"] = True
            return True
        thing, word, value = line[1], line[2], worth(line[3])
        own = standing[0] if thing == "turn" else now[thing]
        if thing == "count" and not whole(value):
            return False
        if line[0] == "when":
            if word == "rest":
                rest = worth(line[4])
                return value >= 1 and whole(rest) and (own - rest) % value == 0
            if word in ("is", "not"):
                return (type(own) is type(value) and own == value) == (word == "is")
            if not whole(own) or not whole(value):
                return False
            return {"above": own > value, "below": own < value, "least": own >= value, "most": own <= value}[word]
        if word != "is":
            if not whole(own) or not whole(value):
                return False
            value = own + value if word == "more" else own - value
        if thing != "count" and value not in dict(game.pieces)[thing]:
            return False
        now[thing] = value
        return True

    if not all(goes_on(line, dict(known)) for line in lines):
        return None
    other = {"first": "second", "second": "first"}[standing[0]]
    turn = standing[0] if now["again"] else other
    return (turn,) + tuple(now[name] for name in names), now["count"]


def moves_plainly(game, standing, n):
    rows = []
    for sort, name, known, lines in instances_plainly(game):
        if sort == standing[0]:
            behind = done_plainly(game, lines, known, standing, n)
            if behind is not None:
                rows.append((name, tuple(value for _, value in known)) + behind)
    return tuple(rows)


def goal_at_plainly(game, standing, n):
    return any(done_plainly(game, lines, known, standing, n) is not None
               for sort, _, known, lines in instances_plainly(game) if sort == "goal")
