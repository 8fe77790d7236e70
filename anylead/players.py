"""Players by rows, and their plays, followed without end."""

from anylead.books import holds
from anylead.checks import is_index, is_row, need_from_nought, need_place, need_state
from anylead.errors import BadRow, NoMove
from anylead.extents import limits_of, rest_step, span_of
from anylead.rounds import Rounds
from anylead.tracks import Guide, follow, ring_ahead, state_behind_moves


def open_counts(book, index):
    """All counts at which the move with this index is open."""
    if not is_index(index, len(book.moves)):
        raise NoMove(index)
    return _counts_of([book.moves[index].conditions])


def goal_counts(book, place):
    """All counts at which the place is a goal."""
    need_place(book, place)
    return _counts_of([goal.conditions for goal in book.goals if goal.place == place])


def _counts_of(rows):
    """All counts for which some row of conditions holds."""
    step = rest_step(rows)
    low, high = span_of(limits_of(rows))
    truths = [any([holds(row, n) for row in rows]) for n in range(low - step, high + step + 1)]
    return Rounds(low, truths[:step], truths[step:-step], truths[-step:])


def _guide_of(book, player, place, n):
    if not is_row(player):
        raise BadRow(player)
    for item in player:
        if not _is_player_row(book, item):
            raise BadRow(item)
    need_state(book, place, n)
    return Guide(book, player)


def _is_player_row(book, value):
    if not is_row(value) or len(value) != 3:
        return False
    place, counts, index = value
    return (is_index(place, book.places) and isinstance(counts, Rounds) and is_index(index, len(book.moves))
            and book.moves[index].place == place)


def answer(book, player, place, n):
    """The index of the move that the player makes at the state; None if the play has ended."""
    return _guide_of(book, player, place, n).answer(place, n)


def next_state(book, player, place, n):
    """The state behind the player's answer; None if the play has ended."""
    index = _guide_of(book, player, place, n).answer(place, n)
    if index is None:
        return None
    return (book.moves[index].target, n + book.moves[index].shift)


class Outcome:
    """All of a course: how it ends and behind how many moves, or by which period and shift it goes on."""

    def __init__(self, kind, ahead, place, n, period, shift):
        self.kind = kind
        self.ahead = ahead
        self.place = place
        self.n = n
        self.period = period
        self.shift = shift

    def __eq__(self, other):
        return (isinstance(other, Outcome) and self.kind == other.kind and self.ahead == other.ahead
                and self.place == other.place and self.n == other.n and self.period == other.period
                and self.shift == other.shift)


def course(book, player, place, n):
    """The Outcome of the play from the state in which each move is the player's answer."""
    track = follow(_guide_of(book, player, place, n), place, n, None)
    if track.ring is None:
        ahead = track.start + len(track.states)
        return Outcome(track.kind, ahead, track.here[0], track.here[1], 0, 0)
    ahead = ring_ahead(track)
    place, n = state_behind_moves(track, ahead)
    return Outcome("on", ahead, place, n, track.ring[1], track.ring[2])


def state_behind(book, player, place, n, turns):
    """The state of the course behind so many moves; None if it ends earlier."""
    guide = _guide_of(book, player, place, n)
    need_from_nought("turns", turns)
    return state_behind_moves(follow(guide, place, n, turns), turns)
