"""[47] to [49] word by word, other right forms of a Paper, and Papers bent at one place."""

from anylead.boards import board_of
from anylead.papers import Paper, Ranks
from anylead.tables import flipped, ranks_of
from helpers import FAR, step_plainly

FIELDS = ("middle", "above", "above_turn", "below", "below_turn", "middle_numbers", "above_ranks", "below_ranks")


def fields_of(told):
    return {name: getattr(told, name) for name in FIELDS}


def changed(told, **fields):
    return Paper(*{**fields_of(told), **fields}.values())


def whole(value):
    return type(value) is int


def is_set(value, allowed):
    return (type(value) is tuple and all(whole(place) and place in allowed for place in value)
            and all(one < other for one, other in zip(value, value[1:])))


def told_at(board, told, level):
    if board.first <= level <= board.last:
        return told.middle[level - board.first]
    sets, turn, index = (told.above, told.above_turn, level - board.last - 1) if level > board.last else (
        told.below, told.below_turn, board.first - level - 1)
    if index >= len(sets):
        index = turn + (index - turn) % (len(sets) - turn)
    return sets[index]


def tells_sets_plainly(board, told):
    """1 of [49]."""
    places = range(board.places)
    for sets in (told.middle, told.above, told.below):
        if type(sets) is not tuple or not all(is_set(each, places) for each in sets):
            return False
    if len(told.middle) != board.last - board.first + 1:
        return False
    return all(len(sets) > 0 and whole(turn) and 0 <= turn < len(sets)
               for sets, turn in ((told.above, told.above_turn), (told.below, told.below_turn)))


def row_plainly(board, level):
    if board.first <= level <= board.last:
        return board.middle[level - board.first]
    return board.above if level > board.last else board.below


def steps_plainly(board, told):
    """The pairs of the step and the told set, at the levels that 2 of [49] names and some more."""
    return [(step_plainly(row_plainly(board, level), *[told_at(board, told, level + by) for by in (-1, 0, 1)]),
             set(told_at(board, told, level)))
            for level in range(board.first - len(told.below) - 3, board.last + len(told.above) + 4)]


def is_outside_plainly(board, told):
    return tells_sets_plainly(board, told) and all(found <= own for found, own in steps_plainly(board, told))


def are_ranks_plainly(row, targets, ranks):
    """3 of [49]."""
    if type(ranks) is not tuple or not all(type(each) is Ranks and is_set(each.places, targets) for each in ranks):
        return False
    if len({each.places for each in ranks}) != len(ranks):
        return False
    for each in ranks:
        if type(each.numbers) is not tuple or len(each.numbers) != len(row):
            return False
        if not all(number is None or (whole(number) and number >= 0) for number in each.numbers):
            return False
    return all(number is None or is_held(spot, number, each, targets, ranks)
               for each in ranks for spot, number in zip(row, each.numbers))


def under(numbers, place, k):
    return numbers[place] is not None and numbers[place] < k


def is_held(spot, k, each, targets, ranks):
    """[47]."""
    cut = tuple(d for d in targets if under(each.numbers, d, k))
    behind = next((other.numbers for other in ranks if other.places == cut), None)
    good = [q in each.places for q in spot.down] + [under(each.numbers, q, k) for q in spot.level]
    good += [behind is not None and under(behind, q, k) for q in spot.up]
    return spot.is_goal or (any(good) if spot.side == 0 else all(good))


def numbers_for(ranks, targets, places):
    cut = tuple(place for place in places if place in targets)
    return next((each.numbers for each in ranks if each.places == cut), None)


def is_right_plainly(book, told):
    """[49]."""
    board = board_of(book)
    if type(told) is not Paper or not is_outside_plainly(board, told):
        return False
    if not are_ranks_plainly(board.above, board.down_targets, told.above_ranks):
        return False
    if not are_ranks_plainly(flipped(board.below), board.up_targets, told.below_ranks):
        return False
    for sets, ranks, targets, level, way in ((told.above, told.above_ranks, board.down_targets, board.last, 1),
                                             (told.below, told.below_ranks, board.up_targets, board.first, -1)):
        for _ in range(len(sets) + 1):
            numbers = numbers_for(ranks, targets, told_at(board, told, level))
            level += way
            if numbers is None or any(numbers[place] is None for place in told_at(board, told, level)):
                return False
    return is_middle_plainly(board, told)


def is_middle_plainly(board, told):
    """5 of [49]."""
    rows = told.middle_numbers
    if type(rows) is not tuple or len(rows) != len(told.middle):
        return False
    for numbers, places in zip(rows, told.middle):
        if type(numbers) is not tuple or len(numbers) != board.places:
            return False
        for place, number in enumerate(numbers):
            if (number is not None and (not whole(number) or number < 0)) or (number is None) == (place in places):
                return False
    for at, row in enumerate(board.middle):
        for spot, k in zip(row, rows[at]):
            if k is None or spot.is_goal:
                continue
            good = []
            for way, targets in ((-1, spot.down), (0, spot.level), (1, spot.up)):
                for q in targets:
                    if 0 <= at + way < len(rows):
                        good.append(under(rows[at + way], q, k))
                        continue
                    ranks, aims = (told.above_ranks, board.down_targets) if way > 0 else (told.below_ranks, board.up_targets)
                    behind = numbers_for(ranks, aims, [p for p in range(board.places) if under(rows[at], p, k)])
                    good.append(behind is not None and behind[q] is not None)
            if not (any(good) if spot.side == 0 else all(good)):
                return False
    return True


def other_forms(book, told):
    """Right Papers of other forms than that of a right one."""
    board = board_of(book)

    def renumbered(numbers):
        return tuple(None if number is None else 3 * number + 7 for number in numbers)

    def all_ranks(row, targets):
        sets = [()]
        for target in targets:
            sets += [places + (target,) for places in sets]
        return [Ranks(places, ranks_of(row, places)) for places in sets]

    yield told
    yield changed(told, middle_numbers=[renumbered(numbers) for numbers in told.middle_numbers],
                  above_ranks=[Ranks(each.places, renumbered(each.numbers)) for each in told.above_ranks],
                  below_ranks=[Ranks(each.places, renumbered(each.numbers)) for each in told.below_ranks])
    yield changed(told, above_ranks=told.above_ranks[::-1], below_ranks=list(told.below_ranks[::-1]))
    yield changed(told, above_ranks=all_ranks(board.above, board.down_targets),
                  below_ranks=all_ranks(flipped(board.below), board.up_targets)[::-1])
    for times in (1, 2):
        above, below = told.above[told.above_turn:], told.below[told.below_turn:]
        yield changed(told, above=told.above + above * times, below=told.below + below * times)
        yield changed(told, above=told.above + above * times, above_turn=len(told.above))
        yield changed(told, below=list(told.below + below * times), below_turn=len(told.below))
    if len(above) > 1:
        yield changed(told, above=told.above + above[:1], above_turn=told.above_turn + 1)


def bent_sets(sets, many):
    """Some rows of sets, each unlike the given one at one place."""
    for at, places in enumerate(sets):
        others = [places[:k] + places[k + 1:] for k in range(len(places))]
        others += [tuple(sorted(places + (place,))) for place in range(many) if place not in places]
        others += [places + places[-1:], places[::-1], (-1,) + places, places + (many,), places + (FAR,), None, 5, "", {}]
        others += [places[:k] + (value,) + places[k + 1:] for k in range(len(places)) for value in (None, str(places[k]), (places[k],))]
        others += [places[:k] + (bool(places[k]),) + places[k + 1:] for k in range(len(places)) if places[k] in (0, 1)]
        for other in others:
            yield sets[:at] + (other,) + sets[at + 1:]
        yield sets[:at] + sets[at + 1:]
        yield sets[:at] + (places,) + sets[at:]


def bent_numbers(numbers):
    """Some rows of numbers, each unlike the given one at one place."""
    for at, number in enumerate(numbers):
        values = [None, -1, True, "1", (1,), FAR, 0] + ([] if number is None else [number + 1, number - 1, number + 2])
        for value in values:
            yield numbers[:at] + (value,) + numbers[at + 1:]
    yield numbers[:-1]
    yield numbers + (None,)
    yield numbers + numbers[:1]
    yield None
    yield 0


def bent_ranks(ranks, many):
    """Some rows of Ranks, each unlike the given one at one place."""
    for at, each in enumerate(ranks):
        yield ranks[:at] + ranks[at + 1:]
        yield ranks[:at] + (each,) + ranks[at:]
        yield ranks + (Ranks(each.places, each.numbers),)
        for value in (None, (), (each.places, each.numbers), each.places, 0):
            yield ranks[:at] + (value,) + ranks[at + 1:]
        for numbers in bent_numbers(each.numbers):
            yield ranks[:at] + (Ranks(each.places, numbers),) + ranks[at + 1:]
        for places in [row[0] for row in bent_sets((each.places,), many) if len(row) == 1]:
            yield ranks[:at] + (Ranks(places, each.numbers),) + ranks[at + 1:]
    for place in range(many):
        yield ranks + (Ranks((place,), (None,) * many),)
    yield None
    yield 0
    yield "ranks"


def bent_papers(book, told):
    """Papers that are unlike a right one at one place."""
    many = board_of(book).places
    for name in ("middle", "above", "below"):
        for sets in bent_sets(getattr(told, name), many):
            yield changed(told, **{name: sets})
        for value in (None, (), 0, "sets", getattr(told, name)[:1] + (None,)):
            yield changed(told, **{name: value})
    for name in ("above_turn", "below_turn"):
        turn = getattr(told, name)
        for value in (turn + 1, turn - 1, 7, -1, bool(turn), str(turn), None, float(turn), (turn,)):
            yield changed(told, **{name: value})
    rows = told.middle_numbers
    for at, numbers in enumerate(rows):
        for other in bent_numbers(numbers):
            yield changed(told, middle_numbers=rows[:at] + (other,) + rows[at + 1:])
    for value in (None, (), 0, rows[:-1], rows + rows[:1], rows + ((),)):
        yield changed(told, middle_numbers=value)
    for name in ("above_ranks", "below_ranks"):
        for ranks in bent_ranks(getattr(told, name), many):
            yield changed(told, **{name: ranks})
