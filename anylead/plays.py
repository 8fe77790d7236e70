"""Plays: the moves that are made one behind the other, and their texts."""

from anylead.books import all_hold, open_moves
from anylead.checks import is_index, is_row, is_whole, need_state
from anylead.errors import BadNumber, BadRow, BadText, NoMove
from anylead.solving import by_place, some_holds
from anylead.words import number_of


class Play:
    """The play of a book from a state in which the moves with these indices are made."""

    def __init__(self, book, place, n, moves):
        need_state(book, place, n)
        if not is_row(moves):
            raise BadRow(moves)
        states = _states(book, place, n, moves)
        if len(states) <= len(moves):
            raise NoMove(moves[len(states) - 1])
        self.book = book
        self.place = place
        self.n = n
        self.moves = tuple(moves)
        self.states = tuple(states)
        self.here = states[-1]
        self.ended, self.choices = _end(book, states[-1])
        self.turn = book.sides[states[-1][0]] if self.ended is None else None

    def __eq__(self, other):
        return (isinstance(other, Play) and self.book == other.book and self.place == other.place
                and self.n == other.n and self.moves == other.moves)

    def go(self, index):
        """The play with one more move."""
        return Play(self.book, self.place, self.n, self.moves + (index,))

    def back(self):
        """The play without its last move."""
        if not self.moves:
            raise NoMove(None)
        return Play(self.book, self.place, self.n, self.moves[:-1])

    def since(self, k):
        """The play from its state number k, with the moves made from there."""
        if not is_index(k, len(self.states)):
            raise BadNumber("state", k)
        place, n = self.states[k]
        return Play(self.book, place, n, self.moves[k:])


def _states(book, place, n, moves):
    """The states of a play, up to the first item of moves that can't be made."""
    goals = by_place(book.goals, book.places)
    states = [(place, n)]
    for item in moves:
        if not is_index(item, len(book.moves)) or some_holds(goals[place], n):
            return states
        move = book.moves[item]
        if move.place != place or not all_hold(move.conditions, n):
            return states
        place = move.target
        n = n + move.shift
        states.append((place, n))
    return states


def _end(book, state):
    """Who has the wish if the play has ended at a state, 0 or 1, otherwise None; and the open moves."""
    place, n = state
    if some_holds([goal for goal in book.goals if goal.place == place], n):
        return 0, ()
    choices = open_moves(book, place, n)
    if not choices:
        return 1 - book.sides[place], ()
    return None, choices


def is_play(book, told):
    """Whether told is a tuple (place, n, moves) of which a Play can be made."""
    if not isinstance(told, tuple) or len(told) != 3:
        return False
    place, n, moves = told
    if not is_index(place, book.places) or not is_whole(n) or not isinstance(moves, tuple):
        return False
    return len(_states(book, place, n, moves)) > len(moves)


def play_text(play):
    """The text of a play."""
    return " ".join([str(play.place), "at", f"{play.n}:"] + [str(index) for index in play.moves])


def read_play(book, text):
    """The play that a text tells."""
    if not isinstance(text, str):
        raise BadText(0, 0)
    words = text.split(" ")
    place = number_of(words[0])
    if not is_index(place, book.places):
        raise BadText(1, 1)
    if len(words) < 2 or words[1] != "at":
        raise BadText(1, _column(words, 1))
    n = number_of(words[2][:-1]) if len(words) > 2 and words[2][-1:] == ":" else None
    if n is None:
        raise BadText(1, _column(words, 2))
    moves = [number_of(word) for word in words[3:]]
    states = _states(book, place, n, moves)
    if len(states) <= len(moves):
        raise BadText(1, _column(words, len(states) + 2))
    return Play(book, place, n, moves)


def _column(words, number):
    """One more than the number of characters ahead of the word; behind the text, if it has no such word."""
    column = sum([len(word) + 1 for word in words[:number]]) + 1
    return column if number < len(words) else column - 1
