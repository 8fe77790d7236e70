"""Sums of two sets that come round."""

from math import gcd, lcm

from anylead.errors import TooMany
from anylead.roundforms import stretch
from anylead.rounds import LIMIT, Rounds, none


def sums(one, other):
    """All sums of a member of one and a member of other."""
    _need_sizes(one, other)
    if not one or not other:
        return none()
    middles = len(one.middle) + len(other.middle)
    ups = lcm(len(one.above), len(other.above))
    downs = lcm(len(one.below), len(other.below))
    # Rising sums come round with the step ups once all rests have been met: the least common multiple
    # of two steps is beyond the last number that no sum of their multiples is.
    rising = middles + len(one.above) + len(other.above) + 2 * ups
    falling = middles + len(one.below) + len(other.below) + 2 * downs
    up = _rising(one.middle, one.above, other.middle, other.above, rising)
    down = _rising(one.middle[::-1], one.below[::-1], other.middle[::-1], other.below[::-1], falling)
    # Places are counted from the sum of both starts. Falling sums are counted down from the sum of the
    # last numbers of both middles.
    low = middles - 1 - falling
    many = rising - low
    rows = [[False] * -low + _row_of(up, rising),
            _row_of(down, falling)[::-1] + [False] * (many - falling),
            stretch(_crossed(one.above, other.below, len(one.middle)), low, many),
            stretch(_crossed(other.above, one.below, len(other.middle)), low, many)]
    row = [a or b or c or d for a, b, c, d in zip(rows[0], rows[1], rows[2], rows[3])]
    start = one.start + other.start + low + downs
    return Rounds(start, row[:downs], row[downs:many - ups], row[many - ups:])


def shifts(one, other):
    """The integers d such that for every member n of one n + d is a member of other."""
    return ~sums(-one, ~other)


def _need_sizes(one, other):
    up = len(one.above) * len(other.above)
    down = len(one.below) * len(other.below)
    if max(up, down) > LIMIT:
        raise TooMany("period", LIMIT)
    if len(one.middle) + len(other.middle) > LIMIT:
        raise TooMany("middle", LIMIT)


def _bits_of(row):
    """The integer with a binary digit 1 for each True of a row, the first one being the lowest."""
    digits = "".join(["1" if on else "0" for on in row[::-1]])
    return int("0" + digits, 2)


def _row_of(bits, many):
    """The first so many binary digits of an integer, as truths."""
    digits = f"{bits:b}".zfill(many)[::-1]
    return [digit == "1" for digit in digits[:many]]


def _count_of(middle, above):
    return sum([1 for on in middle if on]) + sum([1 for on in above if on])


def _again(bits, step, many):
    """The sums below many of a place of the bits and a multiple of step from 0 on."""
    mask = (1 << many) - 1
    while step < many:
        bits = (bits | bits << step) & mask
        step = step * 2
    return bits


def _rising(middle, above, other_middle, other_above, many):
    """The bits, so many of them, of all sums of two sets.

    Each has a middle from 0 on, and behind it a row that comes again and again."""
    if _count_of(middle, above) > _count_of(other_middle, other_above):
        return _rising(other_middle, other_above, middle, above, many)
    ground = _bits_of(other_middle + stretch(other_above, 0, max(0, many - len(other_middle))))
    found = 0
    for at, on in enumerate(middle):
        if on:
            found = found | ground << at
    endless = _again(ground, len(above), many)
    for at, on in enumerate(above, start=len(middle)):
        if on:
            found = found | endless << at
    return found & ((1 << many) - 1)


def _crossed(above, below, gap):
    """The endless row of the sums of a member far up of one set and one far down of another one.

    Both rows go on by their own steps, one upwards from gap on and one downwards from 0 on: so each
    number with the rest of such a sum by the greatest common divisor of the steps is a sum."""
    step = gcd(len(above), len(below))
    rests = _bits_of([True in below[rest::step] for rest in range(step)])
    found = 0
    for rest in range(step):
        if True in above[rest::step]:
            found = found | rests << rest
    folded = _row_of(found | found >> step, step)
    return stretch(tuple(folded), -gap, step)
