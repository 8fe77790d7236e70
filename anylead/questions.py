"""Questions for all counts: good moves, what lasts far out, and places and books held against one another."""

from math import gcd

from anylead.books import without
from anylead.checks import is_index, need_place, tupled
from anylead.errors import NoMove, Unlike
from anylead.roundsums import shifts
from anylead.spans import Span
from anylead.winners import winners


def _need_move(book, index):
    if not is_index(index, len(book.moves)):
        raise NoMove(index)


def _span_of(book):
    told = winners(book)
    return Span(told.board, told)


def _goods(span, level, number, spot):
    """The pairs (index, good) of the open moves at a board place at which the mover has the wish and can move on."""
    if spot.is_goal or not span.has_wish(spot.side, number, level):
        return []
    return [(index, span.has_wish(spot.side, target, level + step)) for index, step, target in spot.moves]


def _rows_of_goods(span, place):
    """For each level the rows of _goods, one for each count of the place."""
    return [[_goods(span, level, number, spot) for number, spot in row]
            for level, row in zip(span.levels, span.spots(place))]


def _counts_with(book, index, good):
    """All counts at which a move, open where its mover has the wish, is good, or is not."""
    _need_move(book, index)
    span = _span_of(book)
    rows = _rows_of_goods(span, book.moves[index].place)
    return span.gathered([[(index, good) in pairs for pairs in row] for row in rows])


def good_at(book, index):
    """All counts at which the move is good."""
    return _counts_with(book, index, True)


def slips_at(book, index):
    """All counts at which the move is open and gives the wish away."""
    return _counts_with(book, index, False)


def lone_at(book, place):
    """All counts at which just one move of the place is good."""
    need_place(book, place)
    span = _span_of(book)
    rows = _rows_of_goods(span, place)
    return span.gathered([[len([index for index, good in pairs if good]) == 1 for pairs in row] for row in rows])


def never_good(book):
    """The indices of all moves that are good at no count."""
    span = _span_of(book)
    found = {}
    for place in range(book.places):
        for row in _rows_of_goods(span, place):
            for pairs in row:
                for index, good in pairs:
                    if good:
                        found[index] = True
    return tuple([index for index in range(len(book.moves)) if index not in found])


class Lasting:
    """Whose the wish is far below and far above, if it is always the same side's, and from which count on."""

    def __init__(self, below, above):
        self.below = tupled(below)
        self.above = tupled(above)


def lasting(book, place):
    """Which side has the wish at a place, far below and far above."""
    need_place(book, place)
    counts = winners(book).at(place)
    return Lasting(_lasting_pair(counts, counts.below, counts.start - 1, 1),
                   _lasting_pair(counts, counts.above, counts.start + len(counts.middle), -1))


def _lasting_pair(counts, row, n, inwards):
    """The side that has the wish wherever the row tells, and the last count inwards from n on at which it has it."""
    if len(row) > 1:
        return None
    side = 0 if row[0] else 1
    if not counts.middle and counts.below == counts.above:
        return (side, None)
    while ((n + inwards) in counts) == row[0]:
        n = n + inwards
    return (side, n)


def shares(book, place):
    """How great a part of the counts far below, and far above, FIRST wins from the place."""
    need_place(book, place)
    counts = winners(book).at(place)
    return (_share(counts.below), _share(counts.above))


def _share(row):
    many = len([True for on in row if on])
    common = gcd(many, len(row))
    return (many // common, len(row) // common)


def _both_counts(book, place, other, other_place):
    need_place(book, place)
    need_place(other, other_place)
    return winners(book).at(place), winners(other).at(other_place)


def apart(book, place, other, other_place):
    """The count nearest to 0 at which FIRST wins from just one of the places; None if there is none."""
    one, another = _both_counts(book, place, other, other_place)
    return (one ^ another).nearest(0)


def behind(book, place, other, other_place):
    """The count nearest to 0 at which FIRST wins from the first place alone; None if there is none."""
    one, another = _both_counts(book, place, other, other_place)
    return (one - another).nearest(0)


def handicap(book, place, other, other_place):
    """The least number from 0 on that, added to any count that wins at the first place, wins at the other one."""
    one, another = _both_counts(book, place, other, other_place)
    return shifts(one, another).after(0)


def squeezed(book, place, other_place):
    """All counts, without goals, at which whoever must move would rather that the other side did."""
    need_place(book, place)
    need_place(book, other_place)
    if book.sides[place] != 0 or book.sides[other_place] != 1:
        raise Unlike("sides")
    span = _span_of(book)
    rows = []
    for level, row, other_row in zip(span.levels, span.spots(place), span.spots(other_place)):
        rows.append([_is_squeezed(span, level, each, another) for each, another in zip(row, other_row)])
    return span.gathered(rows)


def _is_squeezed(span, level, each, another):
    number, spot = each
    other_number, other_spot = another
    if spot.is_goal or other_spot.is_goal:
        return False
    return span.has_wish(1, number, level) and span.has_wish(0, other_number, level)


def changed(book, other):
    """For each place the counts that FIRST wins in the other book alone, and in the book alone."""
    if book.places != other.places:
        raise Unlike("places")
    told = winners(book)
    other_told = winners(other)
    rows = []
    for place in range(book.places):
        one = told.at(place)
        another = other_told.at(place)
        rows.append((another - one, one - another))
    return tuple(rows)


def needless(book):
    """The indices of all moves, each by itself, without which FIRST wins at the same counts from all places."""
    told = _all_counts(book)
    return tuple([index for index in range(len(book.moves)) if _all_counts(without(book, index)) == told])


def _all_counts(book):
    told = winners(book)
    return [told.at(place) for place in range(book.places)]
