"""Rows of truths that go on for ever, the ONE form of a set that comes round, and its text."""


def stretch(row, at, many):
    """So many truths of the endless row that repeats the given one, from its place at on."""
    first = at % len(row)
    times = (first + many) // len(row) + 1
    return (row * times)[first:first + many]


def primes_of(many):
    """The primes that divide a number from 1 on."""
    found = []
    prime = 2
    while prime * prime <= many:
        if many % prime == 0:
            found.append(prime)
        while many % prime == 0:
            many = many // prime
        prime += 1
    if many > 1:
        found.append(many)
    return found


def shortest(row):
    """The shortest row that, repeated, is the same endless row."""
    # All steps that divide the length and repeat the row are multiples of the least one, so primes
    # may be taken away one by one, in any order.
    for prime in primes_of(len(row)):
        while len(row) % prime == 0:
            step = len(row) // prime
            if row[step:] != row[:len(row) - step]:
                break
            row = row[:step]
    return row


def _end_down(below, middle, above):
    """How far from the start the row above reaches down; below 0 if it reaches below the start."""
    at = len(middle)
    while at > 0 and middle[at - 1] == above[(at - 1 - len(middle)) % len(above)]:
        at -= 1
    if at > 0:
        return at
    # Two endless rows that agree on so many places as both their steps make together agree everywhere.
    lowest = -(len(below) + len(above))
    while at > lowest and below[(at - 1) % len(below)] == above[(at - 1 - len(middle)) % len(above)]:
        at -= 1
    return at


def one_form(start, below, middle, above):
    """The start and the three rows of the ONE form of the set that is described."""
    below = shortest(below)
    above = shortest(above)
    length = len(middle)
    end = _end_down(below, middle, above)
    if end == -(len(below) + len(above)):
        row = stretch(above, -start - length, len(above))
        return 0, row, (), row
    turned = stretch(above, end - length, len(above))
    if end <= 0:
        return start + end, stretch(below, end, len(below)), (), turned
    up = 0
    while up < end and middle[up] == below[up % len(below)]:
        up += 1
    return start + up, stretch(below, up, len(below)), middle[up:end], turned


def _runs(start, middle):
    """The first and the last number of each longest run of True."""
    runs = []
    first = None
    for n, on in enumerate(middle, start=start):
        if on and first is None:
            first = n
        elif not on and first is not None:
            runs.append((first, n - 1))
            first = None
    if first is not None:
        runs.append((first, start + len(middle) - 1))
    return runs


def _run_text(first, last):
    if first == last:
        return str(first)
    return f"{first}..{last}"


def form_text(start, below, middle, above):
    """The ONE text of a set that is given in the ONE form."""
    lowest = start - len(below)
    end = start + len(middle)
    items = [f"{lowest + at}-{len(below)}" for at, on in enumerate(below) if on]
    runs = [_run_text(first, last) for first, last in _runs(start, middle)]
    tops = [f"{end + at}+{len(above)}" for at, on in enumerate(above) if on]
    if not items and not runs and not tops:
        return "none"
    if not middle and below == (True,) and above == (True,):
        return "all"
    return ",".join(items + runs + tops)
