"""What it means that FIRST forces the wish within so many turns."""

from anylead.books import is_goal, open_moves
from anylead.checks import need_from_nought, need_state
from anylead.solving import turns_within


def forces(book, turns, place, n):
    """Whether FIRST forces the wish from the state within so many turns."""
    need_state(book, place, n)
    need_from_nought("turns", turns)
    return (place, n) in turns_within(book, [(place, n)], turns)


def is_stuck(book, place, n):
    """Whether the state is no goal and its mover has no open move."""
    return not is_goal(book, place, n) and not open_moves(book, place, n)
