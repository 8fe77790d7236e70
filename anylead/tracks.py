"""Plays of a player followed exactly, their long stretches that come again being told once."""

from anylead.books import all_hold
from anylead.extents import common_step, condition_rows, limits_of, rest_step, span_of
from anylead.roundforms import shortest
from anylead.solving import by_place, indices_by_place, some_holds


class Guide:
    """A book and a player, made ready for looking up many answers.

    Outside of the counts from low to high an answer hangs on the place and on a rest of the count alone:
    by the step of the place above, or below."""

    def __init__(self, book, player):
        self.book = book
        self.moves = indices_by_place(book.moves, book.places)
        self.goals = by_place(book.goals, book.places)
        self.rows = [[] for place in range(book.places)]
        for place, counts, index in player:
            self.rows[place].append((counts, index))
        conditions = condition_rows(book)
        limits = limits_of(conditions)
        self.book_step = rest_step(conditions)
        self.book_low, self.book_high = span_of(limits)
        starts = [row[1].start for row in player]
        lasts = [row[1].start + len(row[1].middle) - 1 for row in player]
        self.low, self.high = span_of(limits + starts + lasts)
        self.known = {}

    def look(self, place, n):
        """How the play ends at a state, "first" or "second", otherwise None; and the open moves in a dict."""
        if n > self.book_high:
            n = self.book_high + 1 + (n - self.book_high - 1) % self.book_step
        elif n < self.book_low:
            n = self.book_low - 1 - (self.book_low - 1 - n) % self.book_step
        key = (place, n)
        if key not in self.known:
            self.known[key] = self._look(place, n)
        return self.known[key]

    def _look(self, place, n):
        moves = self.book.moves
        ways = {index: (moves[index].target, moves[index].shift) for index in self.moves[place]
                if all_hold(moves[index].conditions, n)}
        if some_holds(self.goals[place], n) or (self.book.sides[place] == 1 and not ways):
            return "first", ways
        return (None, ways) if ways else ("second", ways)

    def answer(self, place, n):
        """The index of the player's answer; None if the play has ended."""
        kind, ways = self.look(place, n)
        if kind is not None:
            return None
        for counts, index in self.rows[place]:
            if index in ways and n in counts:
                return index
        return min(ways)

    def zone(self, n):
        """1 for a count above high, -1 for one below low, otherwise 0."""
        if n > self.high:
            return 1
        return -1 if n < self.low else 0

    def far_step(self, place, zone):
        """The step by which the answers at the place come again in a zone."""
        rows = [counts.above if zone > 0 else counts.below for counts, _ in self.rows[place]]
        return common_step([self.book_step] + [len(row) for row in rows])


class Track:
    """A course as far as it has been followed.

    pieces has rows (start, states, drift): from the move number start on the states come, again and again
    till the next piece begins, each time with their counts raised by the drift. Behind the pieces states
    come once; they begin behind so many moves as start tells, and lead to here. kind tells how the course
    has ended. If it never ends, ring tells the row (start, period, drift) by which it comes again from
    some move on."""

    def __init__(self, place, n):
        self.pieces = []
        self.start = 0
        self.states = []
        self.here = (place, n)
        self.kind = None
        self.ring = None


def made(track):
    """The number of moves ahead of here."""
    return track.start + len(track.states)


def is_followed(track, most):
    """Whether the course is known whole, or behind so many moves as most tells, if it isn't None."""
    return track.kind is not None or track.ring is not None or (most is not None and made(track) >= most)


def follow(guide, place, n, most):
    """The Track of the course from a state."""
    track = Track(place, n)
    # A course that goes round, but not within one zone, comes again to a count between both zones, or
    # enters a zone again at the same state.
    crossings = {}
    while not is_followed(track, most):
        if track.here in crossings:
            track.ring = (crossings[track.here], made(track) - crossings[track.here], 0)
            return track
        crossings[track.here] = made(track)
        zone = guide.zone(track.here[1])
        if zone == 0:
            _make_move(track, guide)
        else:
            _follow_far(track, guide, zone, most)
    return track


def _make_move(track, guide):
    place, n = track.here
    index = guide.answer(place, n)
    if index is None:
        track.kind = guide.look(place, n)[0]
        return
    move = guide.book.moves[index]
    track.states.append(track.here)
    track.here = (move.target, n + move.shift)


def _follow_far(track, guide, zone, most):
    """Follows the course till it leaves the zone, ends, or is known."""
    met = {}
    marks = {}
    step = 1
    looking = True
    while not is_followed(track, most) and guide.zone(track.here[1]) == zone:
        if looking:
            place, n = track.here
            if place not in met:
                met[place] = True
                step = common_step([step, guide.far_step(place, zone)])
                marks = {}
            key = (place, n % step)
            if key in marks:
                _repeat(track, guide, zone, marks[key])
                looking = False
                continue
            marks[key] = made(track)
        _make_move(track, guide)


def _repeat(track, guide, zone, begin):
    """Closes the course, or makes at once all rounds that are left in the zone.

    The states from the move number begin on come again from here on, as long as they are in the zone."""
    ahead = track.states[:begin - track.start]
    states, drift = _least_round(track.states[begin - track.start:], track.here[1])
    if drift * zone >= 0:
        track.ring = (begin, len(states), drift)
        return
    counts = [n for _, n in states]
    place, n = track.here
    begun = track.here[1] - states[0][1]
    gap = min(counts) - guide.high - 1 if zone > 0 else guide.low - 1 - max(counts)
    # So many rounds begin at states[0] and lie in the zone whole; begun are those that have been made.
    times = gap // abs(drift) + 1
    if times > begun // drift:
        track.pieces.append((track.start, ahead, 0))
        track.pieces.append((begin, states, drift))
        track.start = begin + times * len(states)
        track.states = []
        track.here = (place, states[0][1] + times * drift)


def _least_round(states, n):
    """The shortest beginning of a round that comes again and again, and its drift; n is the count behind it."""
    counts = [count for _, count in states[1:]] + [n]
    steps = [(state[0], count - state[1]) for state, count in zip(states, counts)]
    length = len(shortest(steps))
    return states[:length], counts[length - 1] - states[0][1]


def state_behind_moves(track, moves):
    """The state behind so many moves, which the Track knows; None if the course ends earlier."""
    if track.ring is not None:
        begin, period, drift = track.ring
        if moves >= begin + period:
            rounds, rest = divmod(moves - begin, period)
            place, n = state_behind_moves(track, begin + rest)
            return (place, n + rounds * drift)
    if moves >= made(track):
        return track.here if moves == made(track) else None
    if moves >= track.start:
        return track.states[moves - track.start]
    start, states, drift = _piece_at(track.pieces, moves)
    rounds, rest = divmod(moves - start, len(states))
    place, n = states[rest]
    return (place, n + rounds * drift)


def _piece_at(pieces, moves):
    """The piece that tells the state behind so many moves."""
    low = 0
    high = len(pieces) - 1
    while low < high:
        half = (low + high + 1) // 2
        if pieces[half][0] <= moves:
            low = half
        else:
            high = half - 1
    return pieces[low]


def ring_ahead(track):
    """The least number of moves from which on the course comes again by the period and drift of its ring."""
    begin, period, drift = track.ring
    starts = [(piece[0], len(piece[1])) for piece in track.pieces] + [(track.start, made(track))]
    for start, length in starts[::-1]:
        fitting = 0
        while begin > start and _fits(track, begin - 1, period, drift):
            begin -= 1
            fitting += 1
            # Both come again, the piece by its length and the course by its period: as soon as they agree
            # that long, they agree on the whole piece.
            if fitting > length + period:
                begin = start
        if begin > start:
            return begin
    return 0


def _fits(track, moves, period, drift):
    place, n = state_behind_moves(track, moves)
    return state_behind_moves(track, moves + period) == (place, n + drift)
