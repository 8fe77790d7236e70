"""What is forced ahead of a descent. Sets of board places are integers here: place p is the binary digit p."""


def bits_of(places, many):
    """The set of those places that are less than many."""
    bits = 0
    for place in places:
        if place < many:
            bits = bits | 1 << place
    return bits


def places_of(bits, many):
    """The ascending tuple of the places of a set."""
    return tuple([place for place in range(many) if bits >> place & 1])


def numbers_of(rounds, many):
    """For each place the index of the first set of a row that has it; None if none has."""
    numbers = [None] * many
    for number, bits in enumerate(rounds):
        for place in range(many):
            if numbers[place] is None and bits >> place & 1:
                numbers[place] = number
    return tuple(numbers)


class Lines:
    """A row of Spots, made ready for steps: where the moves of each place lead is one set of three parts."""

    def __init__(self, row):
        self.many = len(row)
        self.targets = 0
        self.firsts = []
        self.seconds = []
        for place, spot in enumerate(row):
            down = bits_of(spot.down, self.many)
            behind = self._joined(down, bits_of(spot.level, self.many), bits_of(spot.up, self.many))
            self.targets = self.targets | down
            if spot.is_goal:
                self.seconds.append((1 << place, 0))
            elif spot.side == 0:
                self.firsts.append((1 << place, behind))
            else:
                self.seconds.append((1 << place, behind))

    def _joined(self, down, level, up):
        return down | level << self.many | up << 2 * self.many

    def step(self, down, level, up):
        """The goals, and the places of FIRST with some move, those of SECOND with all moves, into the sets."""
        reached = self._joined(down, level, up)
        found = 0
        for bit, behind in self.firsts:
            if behind & reached:
                found = found | bit
        for bit, behind in self.seconds:
            if behind & reached == behind:
                found = found | bit
        return found


class Table:
    """The sets G_0(X), G_1(X), .. of a row of Spots, reckoned for those X alone that play a part."""

    def __init__(self, row):
        self.lines = Lines(row)
        self.rounds = {}
        self.final = {}

    def cut(self, places):
        """Those of a set to which some down move leads."""
        return places & self.lines.targets

    def forced(self, places):
        """G of a set."""
        return self.rounds_of(places)[-1]

    def rounds_of(self, places):
        """The list of G_0, G_1, .. of a set, till nothing is added any more."""
        first = self.cut(places)
        while first not in self.final:
            self._settle(first)
        return self.rounds[first]

    def _settle(self, first):
        """Reckons one more round for the set, and looks whether there will be another one."""
        number = len(self.rounds.setdefault(first, [0])) - 1
        chain = []
        each = first
        while each not in chain:
            self._reach(each, number + 1)
            chain.append(each)
            each = self.cut(self._at(each, number))
        # Each set of the chain hangs on itself and on the next one alone, so once none of them grows
        # none ever will.
        if all([self._at(each, number + 1) == self._at(each, number) for each in chain]):
            for each in chain:
                self.final[each] = True

    def _at(self, places, number):
        rounds = self.rounds[places]
        return rounds[min(number, len(rounds) - 1)]

    def _is_reached(self, places, number):
        return places in self.final or len(self.rounds.setdefault(places, [0])) > number

    def _reach(self, places, number):
        """Reckons the rounds of a set up to this number."""
        todo = [(places, number)]
        while todo:
            each, wanted = todo[-1]
            if self._is_reached(each, wanted):
                todo.pop()
                continue
            rounds = self.rounds[each]
            last = len(rounds) - 1
            behind = self.cut(rounds[last])
            if self._is_reached(behind, last):
                rounds.append(self._grown(each, behind, last))
            else:
                todo.append((behind, last))

    def _grown(self, places, behind, last):
        """The round behind the last one, behind being the cut of that."""
        level = self._at(places, last)
        up = self._at(behind, last)
        if last > 0 and level == self._at(places, last - 1) and up == self._at(behind, last - 1):
            return level
        return self.lines.step(places, level, up)
