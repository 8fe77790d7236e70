"""Who can force that goals come again and again."""

from anylead.boards import board_of
from anylead.checks import need_place
from anylead.errors import Unlike
from anylead.looping import Again, Solved
from anylead.tables import places_bits
from anylead.tabling import places_of
from anylead.winners import solved_winners


def again_forced(row, unseen, seen):
    """The places from which FIRST forces the wish again, or a descent into unseen, or behind a goal into seen."""
    early = places_bits(row, unseen)
    late = places_bits(row, seen)
    if early | late != late:
        raise Unlike("sets")
    return places_of(Again(row).told(early, late), len(row))


def again_winners(book):
    """The Winners whose sets are those from which FIRST can force the wish again."""
    board = board_of(book)
    return solved_winners(board, Solved(board))


def again_at(book, place):
    """All counts at which FIRST can force the wish again from the place."""
    need_place(book, place)
    return again_winners(book).at(place)
