"""How the text of a game is read, word by word, up to the first wrong one."""

from anylead.errors import BadText
from anylead.words import MOST_INTEGER, integer_of, is_name, lines_of, number_of, words_of

MOST_PIECES = 4
MOST_WORDS = 6
MOST_RANGE = 11
MOST_PARAMS = 3
MOST_FAMILIES = 2
SIDES = ("first", "second")
ASKED_OF_PIECE = ("is", "not", "above", "below")
ASKED_OF_COUNT = ("least", "most", "is", "not", "rest")
DONE_TO_PIECE = ("is", "more", "less")
DONE_TO_COUNT = ("more", "less")


class Line:
    """A line with words, and how many of them have been read."""

    def __init__(self, number, words):
        self.number = number
        self.words = words
        self.read = 0

    def word(self):
        """The word that comes; None at the end of the line."""
        return self.words[self.read] if self.read < len(self.words) else None

    def fail(self):
        raise BadText(self.number, self.read + 1)

    def take(self, allowed):
        """The word that comes, if it is one of those that are allowed."""
        word = self.word()
        if word not in allowed:
            self.fail()
        self.read += 1
        return word

    def take_name(self, taken):
        """The NAME that comes, if it stands in none of the dicts."""
        word = self.word()
        if not is_name(word) or any([word in names for names in taken]):
            self.fail()
        self.read += 1
        return word

    def take_integer(self, low, high):
        """The INTEGER that comes, if it is one from low to high."""
        number = None if self.word() is None else integer_of(self.word())
        if number is None or number < low or number > high:
            self.fail()
        self.read += 1
        return number

    def take_number(self):
        """The integer that comes, of at most 60 digits."""
        number = None if self.word() is None else number_of(self.word())
        if number is None:
            self.fail()
        self.read += 1
        return number

    def take_value(self, allowed):
        """The INTEGER that comes, or the word, if it is one of those that are allowed."""
        word = self.word()
        if word is not None and integer_of(word) is not None:
            self.read += 1
            return integer_of(word)
        return self.take(allowed)

    def close(self):
        if self.word() is not None:
            self.fail()


class Reading:
    """A text that is being read, and the names that stand in it so far; of a part, how many PARAMs it has."""

    def __init__(self, text):
        lines = lines_of(text)
        self.many = len(lines)
        self.lines = [Line(at + 1, words_of(line)) for at, line in enumerate(lines) if words_of(line)]
        self.read = 0
        self.pieces = {}
        self.words = {}
        self.rules = {}
        self.parts = {}

    def coming(self):
        """The line that comes; None at the end of the text."""
        return self.lines[self.read] if self.read < len(self.lines) else None

    def next_line(self):
        """Reads on by one line."""
        line = self.coming()
        if line is None:
            raise BadText(self.many + 1, 1)
        self.read += 1
        return line

    def words_for_values(self, names):
        """All words, with some names, that may stand as a VALUE."""
        return {**self.pieces, **self.words, **names, "first": True, "second": True}


def read_game(text):
    """The name, the pieces and the statements of a text."""
    reading = Reading(text)
    line = reading.next_line()
    line.take(("game",))
    name = line.take_name([])
    line.close()
    pieces = []
    while len(pieces) < MOST_PIECES and reading.coming() is not None and reading.coming().word() == "piece":
        pieces.append(_read_piece(reading))
    statements = []
    while reading.coming() is not None:
        statements.append(_read_statement(reading, {}, 0))
    return name, tuple(pieces), tuple(statements)


def _read_piece(reading):
    line = reading.next_line()
    line.take(("piece",))
    name = line.take_name([reading.pieces, reading.words])
    reading.pieces[name] = True
    if line.take(("is", "from")) == "is":
        return (name, _read_words(reading, line))
    low = line.take_integer(-MOST_INTEGER, MOST_INTEGER)
    line.take(("to",))
    high = line.take_integer(low, low + MOST_RANGE)
    line.close()
    return (name, tuple(range(low, high + 1)))


def _read_words(reading, line):
    """The WORDs of a piece."""
    own = {}
    while not own or (line.word() is not None and len(own) < MOST_WORDS):
        own[line.take_name([reading.pieces, own])] = True
    line.close()
    for word in own:
        reading.words[word] = True
    return tuple(own)


def _read_statement(reading, variables, depth):
    """The statement that comes, within so many families with these variables."""
    line = reading.next_line()
    allowed = SIDES + ("goal",)
    if depth == 0:
        allowed = allowed + ("part",)
    if depth < MOST_FAMILIES:
        allowed = allowed + ("for",)
    word = line.take(allowed)
    if word == "for":
        return _read_family(reading, line, variables, depth)
    if word == "part":
        return _read_part(reading, line)
    if word == "goal":
        line.close()
        return ("goal", _read_lines(reading, variables))
    name = line.take_name([reading.rules])
    reading.rules[name] = True
    line.close()
    return ("rule", word, name, _read_lines(reading, variables))


def _read_part(reading, line):
    name = line.take_name([reading.parts])
    params = {}
    while line.word() is not None and len(params) < MOST_PARAMS:
        params[line.take_name([reading.pieces, reading.words, params])] = True
    line.close()
    lines = _read_lines(reading, params)
    reading.parts[name] = len(params)
    return ("part", name, tuple(params), lines)


def _read_family(reading, line, variables, depth):
    variable = line.take_name([reading.pieces, reading.words, variables])
    if line.take(("of", "from") if reading.pieces else ("from",)) == "of":
        values = ("of", line.take(reading.pieces))
    else:
        low = line.take_value(variables)
        line.take(("to",))
        values = ("from", low, line.take_value(variables))
    line.close()
    statements = []
    while not _is_end(reading):
        statements.append(_read_statement(reading, {**variables, variable: True}, depth + 1))
    return ("for", variable, values, tuple(statements))


def _is_end(reading):
    """Whether an end comes; it is read then."""
    line = reading.coming()
    if line is None or line.word() != "end":
        return False
    reading.next_line().take(("end",))
    line.close()
    return True


def _read_lines(reading, names):
    """The lines up to the end of a rule, a goal or a part."""
    lines = []
    while not _is_end(reading):
        line = reading.next_line()
        word = line.take(("when", "then", "use") if reading.parts else ("when", "then"))
        values = reading.words_for_values(names)
        if word == "when":
            lines.append(_read_asking(reading, line, values))
        elif word == "then":
            lines.append(_read_doing(reading, line, values))
        else:
            lines.append(_read_use(reading, line, values))
        line.close()
    return tuple(lines)


def _read_asking(reading, line, values):
    thing = line.take({**reading.pieces, "turn": True, "count": True})
    word = line.take(ASKED_OF_COUNT if thing == "count" else ASKED_OF_PIECE)
    value = line.take_value(values)
    if word == "rest":
        return ("when", thing, word, value, line.take_value(values))
    return ("when", thing, word, value)


def _read_doing(reading, line, values):
    thing = line.take({**reading.pieces, "again": True, "count": True})
    if thing == "again":
        return ("then", thing)
    word = line.take(DONE_TO_COUNT if thing == "count" else DONE_TO_PIECE)
    return ("then", thing, word, line.take_value(values))


def _read_use(reading, line, values):
    name = line.take(reading.parts)
    return tuple(["use", name] + [line.take_value(values) for _ in range(reading.parts[name])])
