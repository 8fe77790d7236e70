"""What is forced, reckoned state by state, within bounds of turns or of counts."""

from anylead.books import is_goal, open_moves
from anylead.checks import is_truth, is_whole, need_from_nought, need_place, need_state, need_whole
from anylead.errors import BadNumber
from anylead.rounds import Rounds
from anylead.solving import turns_between, turns_within


def least_turns(book, place, n, most):
    """The least number of turns, up to most, within which FIRST forces the wish; None if there is none."""
    need_state(book, place, n)
    need_from_nought("most", most)
    return turns_within(book, [(place, n)], most).get((place, n))


def table_of(book, low, high, most):
    """A row for each place: least_turns of the place and each count from low to high."""
    need_whole("low", low)
    need_whole("high", high)
    need_from_nought("most", most)
    counts = range(low, high + 1)
    starts = [(place, n) for place in range(book.places) for n in counts]
    turns = turns_within(book, starts, most)
    return tuple([tuple([turns.get((place, n)) for n in counts]) for place in range(book.places)])


class Window:
    """The game in which a play also ends where the count is below low or above high.

    There FIRST has the wish if beyond is True, SECOND if it is False."""

    def __init__(self, book, low, high, beyond):
        need_whole("low", low)
        if not is_whole(high) or high < low:
            raise BadNumber("high", high)
        if not is_truth(beyond):
            raise BadNumber("beyond", beyond)
        self.book = book
        self.low = low
        self.high = high
        self.beyond = beyond
        self.table = turns_between(book, low, high, beyond)

    def turns(self, place, n):
        """The least number of turns within which FIRST forces the wish; None if there is none."""
        need_state(self.book, place, n)
        return _turns_at(self, place, n)

    def wins(self, place):
        """The counts from low to high from which FIRST can force the wish."""
        need_place(self.book, place)
        row = [(place, n) in self.table for n in range(self.low, self.high + 1)]
        return Rounds(self.low, (False,), row, (False,))

    def best(self, place, n):
        """The index of the best move; None if the play has ended."""
        need_state(self.book, place, n)
        if _is_beyond(self, n) or is_goal(self.book, place, n):
            return None
        turns = _turns_at(self, place, n)
        wanted = None if turns is None else turns - 1
        for index in open_moves(self.book, place, n):
            move = self.book.moves[index]
            if _turns_at(self, move.target, n + move.shift) == wanted:
                return index
        return None

    def best_line(self, place, n):
        """The indices of the moves that both sides' best moves make till the end; None if FIRST can't force."""
        need_state(self.book, place, n)
        if _turns_at(self, place, n) is None:
            return None
        line = []
        index = self.best(place, n)
        while index is not None:
            line.append(index)
            move = self.book.moves[index]
            place = move.target
            n = n + move.shift
            index = self.best(place, n)
        return tuple(line)


def _is_beyond(window, n):
    return n < window.low or n > window.high


def _turns_at(window, place, n):
    if _is_beyond(window, n):
        return 0 if window.beyond else None
    return window.table.get((place, n))


def sandwich(book, place, n, width):
    """Whether FIRST can force the wish, as far as the windows of this width decide it; else None."""
    need_state(book, place, n)
    need_from_nought("width", width)
    if Window(book, n - width, n + width, False).turns(place, n) is not None:
        return True
    if Window(book, n - width, n + width, True).turns(place, n) is None:
        return False
    return None
