"""Plans that keep their side's wish against every play."""

from anylead.boards import board_of, row_at
from anylead.checks import is_index, is_row, is_whole, need_place, tupled
from anylead.errors import BadNumber, BadRow, NoMove, Unlike
from anylead.leading import Middle, Way, Zone, has_ended
from anylead.leveling import set_at
from anylead.papers import is_outside, is_paper, paper
from anylead.plays import Play
from anylead.spans import Span
from anylead.tables import flipped
from anylead.winners import winners


class Standing:
    """A state of a play by a plan, with the promises that haven't been redeemed, the newest one last."""

    def __init__(self, place, n, pile):
        self.place = tupled(place)
        self.n = tupled(n)
        self.pile = tupled(pile)

    def __eq__(self, other):
        return (isinstance(other, Standing) and self.place == other.place and self.n == other.n
                and self.pile == other.pile)


class Straight:
    """From where on the turns that are enough grow evenly, and by how much: above high, and below low."""

    def __init__(self, low, high, down_step, down_gain, up_step, up_gain):
        self.low = low
        self.high = high
        self.down_step = down_step
        self.down_gain = down_gain
        self.up_step = up_step
        self.up_gain = up_gain


class Lead:
    """FIRST's plan, by a right Paper."""

    def __init__(self, book, right):
        if not is_paper(book, right):
            raise Unlike("paper")
        board = board_of(book)
        above = Zone(board.above, board.down_targets, right.above_ranks)
        below = Zone(flipped(board.below), board.up_targets, right.below_ranks)
        self.book = book
        self.side = 0
        self.board = board
        self.right = right
        self.middle = Middle(board, right.middle_numbers, above, below)
        most = self.middle.most
        self.above = Way(above, right.middle[-1], most[-1], right.above, right.above_turn)
        self.below = Way(below, right.middle[0], most[0], right.below, right.below_turn)

    def begin(self, place, n):
        """The standing at the beginning of a play."""
        _need_wish(self, self.right, place, n)
        return Standing(place, n, ())

    def answer(self, standing):
        """The index of FIRST's move."""
        return _least_index(self, standing, _good_ways(self, standing))

    def told(self, standing, index):
        """The standing behind a move, of either side."""
        return _behind(self, standing, _good_ways(self, standing), index)

    def left(self, standing):
        """So many turns are enough for FIRST from the standing."""
        number, level = self.board.at(standing.place, standing.n)
        if has_ended(_spot_at(self, standing)):
            return 0
        way, far = _way_at(self, level)
        if way is None:
            return self.middle.most[level - self.board.first][number]
        return way.left(far, number, standing.pile)

    def enough(self, place, n):
        """So many turns are enough for FIRST from the state."""
        return self.left(self.begin(place, n))

    def straight(self, place):
        """How enough goes on far out."""
        need_place(self.book, place)
        board = self.board
        # Behind this level all that enough adds together comes again.
        low = board.first - self.below.steady
        high = board.last + self.above.steady
        return Straight(low * board.width, (high + 1) * board.width - 1, self.below.period * board.width,
                        self.below.gain, self.above.period * board.width, self.above.gain)


class Watch:
    """SECOND's plan, by a Winners."""

    def __init__(self, book, sets):
        if not is_outside(book, sets):
            raise Unlike("winners")
        self.book = book
        self.side = 1
        self.board = board_of(book)
        self.sets = sets

    def begin(self, place, n):
        """The standing at the beginning of a play."""
        _need_wish(self, self.sets, place, n)
        return Standing(place, n, ())

    def answer(self, standing):
        """The index of SECOND's move."""
        return _least_index(self, standing, _safe_ways(self, standing))

    def told(self, standing, index):
        """The standing behind a move, of either side."""
        return _behind(self, standing, _safe_ways(self, standing), index)

    def player(self):
        """The whole plan as rows (place, counts, index)."""
        span = Span(self.board, self.sets)
        rows = []
        for place in range(self.book.places):
            if self.book.sides[place] == 1:
                rows.extend(_player_rows(self.book, span, place))
        return tuple(rows)


def _need_wish(lead, sets, place, n):
    """Unlike("wish") unless the sets tell the state, which must be one of the book, as one of the plan's side."""
    number, level = lead.board.at(place, n)
    if (number in set_at(lead.board, sets, level)) != (lead.side == 0):
        raise Unlike("wish")


def _spot_at(lead, standing):
    number, level = lead.board.at(standing.place, standing.n)
    return row_at(lead.board, level)[number]


def _way_at(lead, level):
    """The Way of the zone of a level, and how far it is out; None and 0 on a middle level."""
    if level > lead.board.last:
        return lead.above, level - lead.board.last
    if level < lead.board.first:
        return lead.below, lead.board.first - level
    return None, 0


def _good_ways(lead, standing):
    """The good moves of a standing, as rows (index, pile), the pile being that behind the move."""
    number, level = lead.board.at(standing.place, standing.n)
    if has_ended(_spot_at(lead, standing)):
        return []
    pile = standing.pile
    way, far = _way_at(lead, level)
    if way is None:
        ways = lead.middle.ways(level - lead.board.first, number)
    else:
        ways = way.field.ways(pile[-1] if pile else way.aim(far - 1), number)
    rows = []
    for index, step, _, promise in ways:
        if promise is not None:
            rows.append((index, pile + (promise,)))
        else:
            rows.append((index, pile[:-1] if step < 0 else pile))
    return rows


def _safe_ways(watch, standing):
    """The moves of a standing that lead to no told state, as those of _good_ways."""
    level = watch.board.at(standing.place, standing.n)[1]
    rows = []
    for index, step, target in _spot_at(watch, standing).moves:
        if target not in set_at(watch.board, watch.sets, level + step):
            rows.append((index, ()))
    return rows


def _least_index(lead, standing, ways):
    if lead.book.sides[standing.place] != lead.side or not ways:
        raise NoMove(None)
    return ways[0][0]


def _behind(lead, standing, ways, index):
    for good, pile in ways:
        if is_whole(index) and good == index:
            move = lead.book.moves[index]
            return Standing(move.target, standing.n + move.shift, pile)
    raise NoMove(index)


def _player_rows(book, span, place):
    """The rows of a Watch's player for a place."""
    answers = []
    for level, row in zip(span.levels, span.spots(place)):
        answers.append([_safe_index(span, level, number, spot) for number, spot in row])
    rows = []
    for index, move in enumerate(book.moves):
        if move.place == place:
            counts = span.gathered([[found == index for found in row] for row in answers])
            if counts:
                rows.append((place, counts, index))
    return rows


def _safe_index(span, level, number, spot):
    """The index of SECOND's answer; None at a told state."""
    if span.has_wish(1, number, level):
        for index, step, target in spot.moves:
            if span.has_wish(1, target, level + step):
                return index
    return None


def plan(book, side):
    """The plan of a side by what is reckoned here."""
    if not is_index(side, 2):
        raise BadNumber("side", side)
    if side == 0:
        return Lead(book, paper(book))
    return Watch(book, winners(book))


def played(lead, place, n, picks):
    """The Play in which the plan's side makes its answers, and the other side the moves that the picks tell."""
    standing = lead.begin(place, n)
    if not is_row(picks) or not all([is_whole(item) for item in picks]):
        raise BadRow(picks)
    moves = []
    for item in picks:
        spot = _spot_at(lead, standing)
        if has_ended(spot):
            break
        if spot.side == lead.side:
            index = lead.answer(standing)
        else:
            index = spot.moves[item % len(spot.moves)][0]
        moves.append(index)
        standing = lead.told(standing, index)
    return Play(lead.book, place, n, moves)
