"""What FIRST can force again and again, round by round. Sets of board places are integers, as in tabling.

A pair (unseen, seen) has the places at which a play may leave a zone: as long as no goal has come on the way, and
as soon as one has. unseen has no place that seen hasn't."""

from anylead.leveling import outward
from anylead.tables import flipped
from anylead.tabling import bits_of


class Turns:
    """A row of Spots, made ready for steps of plays that go on behind goals."""

    def __init__(self, row):
        self.many = len(row)
        self.targets = 0
        self.rules = []
        for place, spot in enumerate(row):
            down = bits_of(spot.down, self.many)
            behind = self.joined(down, bits_of(spot.level, self.many), bits_of(spot.up, self.many))
            self.targets = self.targets | down
            self.rules.append((1 << place, spot.side, spot.is_goal, behind))

    def joined(self, down, level, up):
        """Three sets as one."""
        return down | level << self.many | up << 2 * self.many

    def step(self, unseen, seen):
        """The places from which the mover's moves lead as FIRST needs it: from goals into seen, else into unseen."""
        found = 0
        for bit, side, is_goal, behind in self.rules:
            reached = behind & (seen if is_goal else unseen)
            if (side == 0 and reached) or (side == 1 and reached == behind):
                found = found | bit
        return found


class Again:
    """The greatest and, within it, least table of a zone, told for all pairs of sets of its down targets."""

    def __init__(self, row):
        self.turned = Turns(row)
        everything = (1 << len(row)) - 1
        last = {pair: everything for pair in _pairs(self.turned.targets)}
        found = _inner(self.turned, last)
        while found != last:
            last = found
            found = _inner(self.turned, last)
        self.table = found

    def told(self, unseen, seen):
        """What FIRST forces for a pair of sets of any places."""
        return self.table[(unseen & self.turned.targets, seen & self.turned.targets)]

    def forced(self, places):
        """The set of the level outside of one with this set."""
        return self.told(places, places)


def _pairs(targets):
    """All pairs of sets of the targets."""
    pairs = [(0, 0)]
    for place in range(targets.bit_length()):
        bit = 1 << place
        if targets & bit:
            pairs.extend([(unseen | own, seen | bit) for unseen, seen in list(pairs) for own in (0, bit)])
    return pairs


def _inner(turns, greater):
    """The least table of the inner round, by the table of the outer one."""
    cut = turns.targets
    steps = {}
    for unseen, seen in greater:
        level = greater[(seen, seen)]
        up = greater[(level & cut, level & cut)]
        steps[(unseen, seen)] = (level & cut, turns.joined(seen, level, up))
    last = {pair: 0 for pair in greater}
    while True:
        found = {}
        for pair, (back, behind_goals) in steps.items():
            level = last[pair]
            up = last[(level & cut, back)]
            found[pair] = turns.step(turns.joined(pair[0], level, up), behind_goals)
        if found == last:
            return found
        last = found


class Solved:
    """What FIRST can force again and again at all levels of a board."""

    def __init__(self, board):
        self.above = Again(board.above)
        self.below = Again(flipped(board.below))
        self.middle = _middle(board, self.above, self.below)
        self.above_sets, self.above_turn = outward(self.above, self.middle[-1])
        self.below_sets, self.below_turn = outward(self.below, self.middle[0])


def _middle(board, above, below):
    rows = [Turns(row) for row in board.middle]
    last = [(1 << board.places) - 1] * len(rows)
    while True:
        found = _inner_middle(rows, above, below, last)
        if found == last:
            return found
        last = found


def _inner_middle(rows, above, below, greater):
    """The least sets of the middle levels in the inner round, by the sets of the outer one."""
    seen = [below.forced(greater[0])] + greater + [above.forced(greater[-1])]
    last = [0] * len(rows)
    while True:
        unseen = [below.told(last[0], greater[0])] + last + [above.told(last[-1], greater[-1])]
        found = []
        for at, turns in enumerate(rows):
            found.append(turns.step(turns.joined(unseen[at], unseen[at + 1], unseen[at + 2]),
                                    turns.joined(seen[at], seen[at + 1], seen[at + 2])))
        if found == last:
            return found
        last = found
