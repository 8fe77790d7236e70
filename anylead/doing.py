"""Lines of rules and goals, done one behind the other for all counts at once."""

from anylead.checks import is_whole

OTHER_TURN = {"first": "second", "second": "first"}


class Doing:
    """What the lines that have been done from a standing have led to, and which counts they have asked for.

    The conditions are those on the count ahead of all lines."""

    def __init__(self, game, standing):
        self.allowed = {name: values for name, values in game.pieces}
        self.turn = standing[0]
        self.worths = {name: value for (name, _), value in zip(game.pieces, standing[1:])}
        self.turn_behind = OTHER_TURN[standing[0]]
        self.shift = 0
        self.conditions = []

    def standing(self):
        """The standing behind the lines."""
        return (self.turn_behind,) + tuple(self.worths.values())

    def do(self, line):
        """Does a line, without asking whether the count is as it tells; returns whether it goes on."""
        if line[0] == "when":
            if line[1] == "count":
                return self._ask_count(line)
            own = self.turn if line[1] == "turn" else self.worths[line[1]]
            return _goes_on(own, line[2], self._worth(line[3]))
        if line[1] == "again":
            self.turn_behind = self.turn
            return True
        worth = self._worth(line[3])
        if line[1] == "count":
            return self._change_count(line[2], worth)
        return self._change_piece(line[1], line[2], worth)

    def _worth(self, value):
        """What a VALUE stands for now."""
        return self.worths.get(value, value)

    def _ask_count(self, line):
        k = self._worth(line[3])
        if not is_whole(k):
            return False
        if line[2] != "rest":
            self.conditions.append((line[2], k - self.shift))
            return True
        rest = self._worth(line[4])
        if not is_whole(rest) or k < 1:
            return False
        self.conditions.append(("rest", k, (rest - self.shift) % k))
        return True

    def _change_count(self, word, worth):
        if not is_whole(worth):
            return False
        self.shift += worth if word == "more" else -worth
        return True

    def _change_piece(self, piece, word, worth):
        own = self.worths[piece]
        if word != "is":
            if not is_whole(own) or not is_whole(worth):
                return False
            worth = own + worth if word == "more" else own - worth
        if worth not in self.allowed[piece]:
            return False
        self.worths[piece] = worth
        return True


def _goes_on(own, word, worth):
    if word == "is":
        return own == worth
    if word == "not":
        return own != worth
    if not is_whole(own) or not is_whole(worth):
        return False
    return own > worth if word == "above" else own < worth


def done(game, lines, standing):
    """The Doing of lines from a standing; None if one fails at all counts."""
    doing = Doing(game, standing)
    for line in lines:
        if not doing.do(line):
            return None
    return doing
