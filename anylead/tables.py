"""What FIRST forces in a zone ahead of a descent out of it."""

from anylead.boards import Spot
from anylead.checks import is_row, is_whole
from anylead.errors import BadRow
from anylead.tabling import Lines, Table, bits_of, numbers_of, places_of


def places_bits(row, places):
    """The board places of a set that is passed, as an integer; BadRow for what is none."""
    if not is_row(places) or not all([is_whole(place) and place >= 0 for place in places]):
        raise BadRow(places)
    return bits_of(places, len(row))


def step(row, down, level, up):
    """The goals, and the places from which the mover's moves lead into the sets as FIRST needs it."""
    below = places_bits(row, down)
    same = places_bits(row, level)
    return places_of(Lines(row).step(below, same, places_bits(row, up)), len(row))


def forced(row, places):
    """The places from which FIRST forces a goal or a descent into the set."""
    return places_of(Table(row).forced(places_bits(row, places)), len(row))


def flipped(row):
    """The row of Spots with down and up exchanged."""
    return tuple([Spot(spot.side, spot.is_goal, spot.level, spot.up, spot.down,
                       [(index, -way, target) for index, way, target in spot.moves]) for spot in row])


def ranks_of(row, places):
    """For each board place the round in which it is found for the set, None if it never is."""
    return numbers_of(Table(row).rounds_of(places_bits(row, places)), len(row))
