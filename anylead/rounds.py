"""Sets of integers that come round, below and above."""

from math import gcd, lcm

from anylead.checks import is_row, is_truth, is_whole, need_whole
from anylead.errors import BadNumber, BadRow, TooMany
from anylead.roundforms import form_text, one_form, stretch

LIMIT = 20000

# For each sign: whether a number is a member, by whether it is one of the first and of the second set.
BOTH = ((False, False), (False, True))
EITHER = ((False, True), (True, True))
JUST_ONE = ((False, True), (True, False))
FIRST_ALONE = ((False, False), (True, False))


class Rounds:
    """A set of integers: rows of truths below start, from start to end - 1, and from end on."""

    def __init__(self, start, below, middle, above):
        need_whole("start", start)
        _need_truths(below, 1)
        _need_truths(middle, 0)
        _need_truths(above, 1)
        form = one_form(start, tuple(below), tuple(middle), tuple(above))
        self.start, self.below, self.middle, self.above = form
        self.end = self.start + len(self.middle)
        self.below_places = _true_places(self.below)
        self.middle_places = _true_places(self.middle)
        self.above_places = _true_places(self.above)

    def __eq__(self, other):
        return (isinstance(other, Rounds) and self.start == other.start and self.below == other.below
                and self.middle == other.middle and self.above == other.above)

    def __str__(self):
        return str(form_text(self.start, self.below, self.middle, self.above))

    def __contains__(self, n):
        if n >= self.end:
            return self.above[(n - self.end) % len(self.above)]
        if n >= self.start:
            return self.middle[n - self.start]
        return self.below[(n - self.start) % len(self.below)]

    def __bool__(self):
        return bool(self.below_places) or bool(self.middle_places) or bool(self.above_places)

    def __and__(self, other):
        return _mixed(self, other, BOTH)

    def __or__(self, other):
        return _mixed(self, other, EITHER)

    def __xor__(self, other):
        return _mixed(self, other, JUST_ONE)

    def __sub__(self, other):
        return _mixed(self, other, FIRST_ALONE)

    def __invert__(self):
        return Rounds(self.start, _turned(self.below), _turned(self.middle), _turned(self.above))

    def __neg__(self):
        return Rounds(1 - self.end, self.above[::-1], self.middle[::-1], self.below[::-1])

    def within(self, other):
        """Whether each member is one of other."""
        return not bool(_mixed(self, other, FIRST_ALONE))

    def apart(self, other):
        """Whether no integer is a member of both."""
        return not bool(_mixed(self, other, BOTH))

    def least(self):
        """The least member; None if there is none."""
        if self.below_places:
            return None
        return _member(self, 0)

    def greatest(self):
        """The greatest member; None if there is none."""
        if self.above_places:
            return None
        return _member(self, len(self.middle_places) - 1)

    def after(self, n):
        """The least member that is n or above."""
        need_whole("count", n)
        return _member(self, _rank(self, n))

    def before(self, n):
        """The greatest member that is n or below."""
        need_whole("count", n)
        return _member(self, _rank(self, n + 1) - 1)

    def nearest(self, n):
        """The member with the least distance to n, the lesser of two."""
        low = self.before(n)
        high = self.after(n)
        if low is None:
            return high
        if high is None or n - low <= high - n:
            return low
        return high

    def many(self, low, high):
        """How many members there are from low to high."""
        need_whole("low", low)
        need_whole("high", high)
        if low > high:
            return 0
        return _rank(self, high + 1) - _rank(self, low)

    def members(self, low, high):
        """The members from low to high."""
        need_whole("low", low)
        need_whole("high", high)
        return tuple([_member(self, rank) for rank in range(_rank(self, low), _rank(self, high + 1))])

    def ith(self, n, i):
        """The member i members behind the first one from n on; below 0, counted downwards from n."""
        need_whole("count", n)
        need_whole("index", i)
        return _member(self, _rank(self, n) + i)

    def moved(self, by):
        """The numbers n + by for the members n."""
        need_whole("by", by)
        return Rounds(self.start + by, self.below, self.middle, self.above)

    def spread(self, k, r):
        """The numbers k * n + r for the members n."""
        need_whole("factor", k)
        need_whole("shift", r)
        if abs(k) * max(len(self.below), len(self.above)) > LIMIT:
            raise TooMany("period", LIMIT)
        if abs(k) * len(self.middle) > LIMIT:
            raise TooMany("middle", LIMIT)
        if k == 0:
            return just(r) if self else none()
        one = self if k > 0 else -self
        return _widened(one, abs(k)).moved(r)

    def pulled(self, k, r):
        """The integers n for which k * n + r is a member."""
        need_whole("factor", k)
        need_whole("shift", r)
        if k == 0:
            return all_counts() if r in self else none()
        if k < 0:
            return -_narrowed(self, -k, r)
        return _narrowed(self, k, r)


def _need_truths(row, least):
    if not is_row(row) or len(row) < least or not all([is_truth(item) for item in row]):
        raise BadRow(row)


def _true_places(row):
    return [at for at, on in enumerate(row) if on]


def _turned(row):
    return [not on for on in row]


def _places_ahead(places, at):
    """How many numbers of an ascending list are less than at."""
    low = 0
    high = len(places)
    while low < high:
        half = (low + high) // 2
        if places[half] < at:
            low = half + 1
        else:
            high = half
    return low


def _rank(one, n):
    """How many members there are from start to n - 1; if n is below start, less 0 those from n on."""
    if n < one.start:
        rounds, rest = divmod(n - one.start, len(one.below))
        return rounds * len(one.below_places) + _places_ahead(one.below_places, rest)
    if n < one.end:
        return _places_ahead(one.middle_places, n - one.start)
    rounds, rest = divmod(n - one.end, len(one.above))
    ahead = len(one.middle_places) + rounds * len(one.above_places)
    return ahead + _places_ahead(one.above_places, rest)


def _member(one, rank):
    """The member from start on with so many ahead of it; below 0, counted downwards from start."""
    if 0 <= rank < len(one.middle_places):
        return one.start + one.middle_places[rank]
    if rank < 0:
        first = one.start
        row = one.below
        places = one.below_places
    else:
        rank = rank - len(one.middle_places)
        first = one.end
        row = one.above
        places = one.above_places
    if not places:
        return None
    rounds, place = divmod(rank, len(places))
    return first + rounds * len(row) + places[place]


def _is_periodic(one):
    """Whether the set is periodic throughout."""
    return not one.middle and one.below == one.above


def _span(one, other):
    """The lesser start and the greater end; a set that is periodic throughout has neither."""
    bounded = [each for each in (one, other) if not _is_periodic(each)]
    if not bounded:
        return 0, 0
    return min([each.start for each in bounded]), max([each.end for each in bounded])


def _truths(one, low, high):
    """Whether each number from low to high - 1 is a member."""
    start = min(max(low, one.start), high)
    end = min(max(low, one.end), high)
    below = stretch(one.below, low - one.start, start - low)
    middle = one.middle[start - one.start:end - one.start]
    return below + middle + stretch(one.above, end - one.end, high - end)


def _mixed(one, other, table):
    """The numbers for which the table tells True, by whether they are members of both sets."""
    down = lcm(len(one.below), len(other.below))
    up = lcm(len(one.above), len(other.above))
    if max(down, up) > LIMIT:
        raise TooMany("period", LIMIT)
    low, high = _span(one, other)
    if high - low > LIMIT:
        raise TooMany("middle", LIMIT)
    below = _paired(stretch(one.below, low - one.start, down), stretch(other.below, low - other.start, down), table)
    middle = _paired(_truths(one, low, high), _truths(other, low, high), table)
    above = _paired(stretch(one.above, high - one.end, up), stretch(other.above, high - other.end, up), table)
    return Rounds(low, below, middle, above)


def _paired(row, other, table):
    return [table[on][too] for on, too in zip(row, other)]


def _spaced(row, k):
    """The row with k - 1 times False behind each truth."""
    wide = [False] * (k * len(row))
    for at, on in enumerate(row):
        wide[k * at] = on
    return wide


def _widened(one, k):
    """The numbers k * n for the members n, k being 1 or more."""
    return Rounds(k * one.start, _spaced(one.below, k), _spaced(one.middle, k), _spaced(one.above, k))


def _narrowed(one, k, r):
    """The integers n for which k * n + r is a member, k being 1 or more."""
    low = -((r - one.start) // k)
    high = -((r - one.end) // k)
    down = len(one.below) // gcd(k, len(one.below))
    up = len(one.above) // gcd(k, len(one.above))
    below = [one.below[(k * n + r - one.start) % len(one.below)] for n in range(low, low + down)]
    middle = [one.middle[k * n + r - one.start] for n in range(low, high)]
    above = [one.above[(k * n + r - one.end) % len(one.above)] for n in range(high, high + up)]
    return Rounds(low, below, middle, above)


def none():
    """The set without members."""
    return Rounds(0, (False,), (), (False,))


def all_counts():
    """The set of all integers."""
    return Rounds(0, (True,), (), (True,))


def just(n):
    """The set of n alone."""
    need_whole("count", n)
    return Rounds(n, (False,), (True,), (False,))


def at_least(n):
    """The set of n and all above."""
    need_whole("count", n)
    return Rounds(n, (False,), (), (True,))


def at_most(n):
    """The set of n and all below."""
    need_whole("count", n)
    return Rounds(n + 1, (True,), (), (False,))


def between(low, high):
    """The set of the integers from low to high."""
    need_whole("low", low)
    need_whole("high", high)
    if high - low + 1 > LIMIT:
        raise TooMany("middle", LIMIT)
    return Rounds(low, (False,), (True,) * max(0, high - low + 1), (False,))


def every(m, r):
    """The set of all n for which n - r is a multiple of m."""
    if not is_whole(m) or m < 1 or m > LIMIT:
        raise BadNumber("modulus", m)
    need_whole("rest", r)
    row = (True,) + (False,) * (m - 1)
    return Rounds(r, row, (), row)


def listed(row):
    """The set of the integers in a row."""
    if not is_row(row) or not all([is_whole(n) for n in row]):
        raise BadRow(row)
    if not row:
        return none()
    low = min(row)
    high = max(row)
    if high - low >= LIMIT:
        raise TooMany("middle", LIMIT)
    middle = [False] * (high - low + 1)
    for n in row:
        middle[n - low] = True
    return Rounds(low, (False,), middle, (False,))
