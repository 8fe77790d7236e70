"""What a right Paper tells FIRST: good moves, their promises, and how many moves they can take."""

from anylead.papers import is_less, targets_below


def has_ended(spot):
    """Whether the play has ended at a state with this Spot."""
    return spot.is_goal or not spot.moves


def farthest(row, places):
    """The greatest number that a row has at some places; 0 if there are none."""
    return max([row[place] for place in places], default=0)


class Zone:
    """The zone above with its Ranks; for the zone below, the row is flipped, so up leads out and down back.

    known has the numbers for each set of the Ranks. most has, for each set and each place with a number, the most
    moves that good moves take till an end or the descent."""

    def __init__(self, row, targets, ranks):
        self.row = row
        self.targets = targets
        self.known = {each.places: each.numbers for each in ranks}
        self.most = _most_of_zone(self)

    def ways(self, aim, place):
        """The good moves of a place for an aim, as rows (index, step, target, promise); no move out has no promise."""
        numbers = self.known[aim]
        number = numbers[place]
        promise = targets_below(numbers, self.targets, number)
        behind = self.known.get(promise)
        ways = []
        for index, step, target in self.row[place].moves:
            if step > 0:
                if behind is not None and is_less(behind[target], number):
                    ways.append((index, step, target, promise))
            elif (step < 0 and target in aim) or (step == 0 and is_less(numbers[target], number)):
                ways.append((index, step, target, None))
        return ways


def _most_of_zone(zone):
    most = {aim: [None] * len(zone.row) for aim in zone.known}
    todo = [(number, aim, place) for aim, numbers in zone.known.items() for place, number in enumerate(numbers)
            if number is not None]
    # A good move leads to a lesser number, on the level and further out alike.
    for _, aim, place in sorted(todo):
        most[aim][place] = 0
        if has_ended(zone.row[place]):
            continue
        for _, step, target, promise in zone.ways(aim, place):
            behind = 0
            if step == 0:
                behind = most[aim][target]
            elif step > 0:
                behind = most[promise][target] + farthest(most[aim], promise)
            most[aim][place] = max(most[aim][place], behind + 1)
    return most


class Middle:
    """The middle levels with their numbers, between two Zones.

    most has, for each level and each place with a number, the most moves that good moves take till an end."""

    def __init__(self, board, numbers, above, below):
        self.board = board
        self.numbers = numbers
        self.above = above
        self.below = below
        self.most = _most_of_middle(self)

    def ways(self, at, place):
        """The good moves of a place on the middle level with this index, as those of a Zone."""
        number = self.numbers[at][place]
        ways = []
        for index, step, target in self.board.middle[at][place].moves:
            if 0 <= at + step < len(self.numbers):
                if is_less(self.numbers[at + step][target], number):
                    ways.append((index, step, target, None))
                continue
            zone = self.above if step > 0 else self.below
            promise = targets_below(self.numbers[at], zone.targets, number)
            behind = zone.known.get(promise)
            if behind is not None and behind[target] is not None:
                ways.append((index, step, target, promise))
        return ways


def _most_of_middle(middle):
    most = [[None] * len(numbers) for numbers in middle.numbers]
    todo = [(number, at, place) for at, numbers in enumerate(middle.numbers) for place, number in enumerate(numbers)
            if number is not None]
    for _, at, place in sorted(todo):
        most[at][place] = 0
        if has_ended(middle.board.middle[at][place]):
            continue
        for _, step, target, promise in middle.ways(at, place):
            if promise is None:
                behind = most[at + step][target]
            else:
                zone = middle.above if step > 0 else middle.below
                behind = zone.most[promise][target] + farthest(most[at], promise)
            most[at][place] = max(most[at][place], behind + 1)
    return most


class Way:
    """The way from far out in a zone to the middle, over the told sets of its levels.

    A level of the zone is told by how far it is from the middle, from 1 on; 0 is the outermost middle level, border
    has the most moves from there. aims has the told sets, cut, from 0 on; those from the index turn on come again by
    the period."""

    def __init__(self, zone, border_set, border, sets, turn):
        self.field = zone
        self.border = border
        self.turn = turn + 1
        self.period = len(sets) - turn
        self.aims = [tuple([place for place in places if place in zone.targets]) for places in (border_set,) + sets]
        # As soon as both an aim and the one behind it come again, so do the moves from level to level; an aim
        # without places, which ends the sum, comes within one more period.
        self.steady = self.turn + self.period
        self.sums = [farthest(border, self.aims[0])]
        for far in range(1, self.steady + self.period + 1):
            self.sums.append(self._sum_behind(far))
        self.gain = self.sums[-1] - self.sums[self.steady]

    def _sum_behind(self, far):
        aim = self.aim(far)
        if not aim:
            return 0
        return farthest(self.field.most[self.aim(far - 1)], aim) + self.sums[far - 1]

    def aim(self, far):
        """The told set of a level, cut to the down targets."""
        if far < self.turn:
            return self.aims[far]
        return self.aims[self.turn + (far - self.turn) % self.period]

    def sum_from(self, far):
        """The most moves that good moves take from the told places of a level that are come to from further out."""
        if far < self.steady:
            return self.sums[far]
        rounds, rest = divmod(far - self.steady, self.period)
        return self.sums[self.steady + rest] + rounds * self.gain

    def left(self, far, place, pile):
        """The most moves that good moves take from a place of a level, with a pile of promises."""
        total = self.field.most[pile[-1] if pile else self.aim(far - 1)][place]
        for at in range(len(pile) - 1, -1, -1):
            if not pile[at]:
                return total
            far = far - 1
            row = self.border
            if at > 0:
                row = self.field.most[pile[at - 1]]
            elif far > 0:
                row = self.field.most[self.aim(far - 1)]
            total += farthest(row, pile[at])
        return total + self.sum_from(far - 1) if far > 0 else total
