"""Games in words: their texts, and their standings."""

from anylead.checks import is_index, is_row, is_whole, need_whole
from anylead.errors import BadPlace, BadRow, BadText
from anylead.reading import SIDES, Line, read_game
from anylead.words import words_of


class Game:
    """A game that a text tells: its name, its pieces with their values, and its statements."""

    def __init__(self, name, pieces, statements):
        self.name = name
        self.pieces = pieces
        self.statements = statements

    def __eq__(self, other):
        return (isinstance(other, Game) and self.name == other.name and self.pieces == other.pieces
                and self.statements == other.statements)


def game_of(text):
    """The Game that a text tells."""
    if not isinstance(text, str):
        raise BadText(0, 0)
    name, pieces, statements = read_game(text)
    return Game(name, pieces, statements)


def game_text(game):
    """The text of a game."""
    lines = [("game", game.name)]
    for name, values in game.pieces:
        if is_whole(values[0]):
            lines.append(("piece", name, "from", values[0], "to", values[-1]))
        else:
            lines.append(("piece", name, "is") + values)
    for statement in game.statements:
        lines.extend(_lines_of(statement))
    return "".join([line_text(line) + "\n" for line in lines])


def line_text(words):
    """The text of a row of words and INTEGERs."""
    return " ".join([str(word) for word in words])


def _lines_of(statement):
    """The lines of a statement, as rows of words."""
    sort = statement[0]
    if sort == "rule":
        return [statement[1:3]] + list(statement[3]) + [("end",)]
    if sort == "goal":
        return [("goal",)] + list(statement[1]) + [("end",)]
    if sort == "part":
        return [statement[:2] + statement[2]] + list(statement[3]) + [("end",)]
    _, variable, values, statements = statement
    head = ("for", variable) + values
    if values[0] == "from":
        head = ("for", variable, "from", values[1], "to", values[2])
    lines = [head]
    for inner in statements:
        lines.extend(_lines_of(inner))
    return lines + [("end",)]


def rows_of_values(game):
    """What may stand at each place of a standing."""
    return [SIDES] + [values for _, values in game.pieces]


def standings(game):
    """All standings, by their places."""
    rows = [()]
    for values in rows_of_values(game):
        rows = [row + (value,) for row in rows for value in values]
    return tuple(rows)


def place_of(game, standing):
    """The place of a standing."""
    rows = rows_of_values(game)
    if not is_row(standing) or len(standing) != len(rows):
        raise BadRow(standing)
    place = 0
    for value, values in zip(standing, rows):
        if not (isinstance(value, str) or is_whole(value)) or value not in values:
            raise BadRow(standing)
        place = place * len(values) + values.index(value)
    return place


def standing_at(game, place):
    """The standing with this place."""
    rows = rows_of_values(game)
    many = 1
    for values in rows:
        many = many * len(values)
    if not is_index(place, many):
        raise BadPlace(place)
    standing = ()
    for values in rows[::-1]:
        place, rest = divmod(place, len(values))
        standing = (values[rest],) + standing
    return standing


def state_text(game, standing, n):
    """The text of a state."""
    place_of(game, standing)
    need_whole("count", n)
    return line_text(list(standing) + ["at", n])


def state_of(game, text):
    """The state (standing, count) that a text tells."""
    if not isinstance(text, str):
        raise BadText(0, 0)
    line = Line(1, words_of(text))
    standing = take_standing(game, line)
    line.take(("at",))
    n = line.take_number()
    line.close()
    return (standing, n)


def take_standing(game, line):
    """The standing that comes in a line of words."""
    standing = ()
    for values in rows_of_values(game):
        texts = [str(value) for value in values]
        standing = standing + (values[texts.index(line.take(texts))],)
    return standing
