"""What a game means: its instances, and its moves and goals at a state."""

from anylead.books import all_hold
from anylead.checks import is_whole, need_whole
from anylead.doing import done
from anylead.errors import TooMany
from anylead.games import place_of, rows_of_values

MOST_PLACES = 24
MOST_INSTANCES = 60
MOST_LINES = 400


def moves_from(game, standing, n):
    """All moves at a state, as rows (name, choices, standing, count)."""
    rows = instances(game)
    place_of(game, standing)
    need_whole("count", n)
    moves = []
    for sort, name, choices, lines in rows:
        if sort == standing[0]:
            doing = done(game, lines, standing)
            if doing is not None and all_hold(doing.conditions, n):
                moves.append((name, choices, doing.standing(), n + doing.shift))
    return tuple(moves)


def is_goal_at(game, standing, n):
    """Whether a state is a goal."""
    rows = instances(game)
    place_of(game, standing)
    need_whole("count", n)
    for sort, _, _, lines in rows:
        if sort == "goal":
            doing = done(game, lines, standing)
            if doing is not None and all_hold(doing.conditions, n):
                return True
    return False


def counted(game):
    """How many places, instances, and lines of instances a game has."""
    places = 1
    for values in rows_of_values(game):
        places = places * len(values)
    many, lines = _counted_in(game, game.statements, _part_lengths(game), {})
    return (places, many, lines)


def need_small(game):
    """TooMany for a game that is too great to be looked through."""
    places, many, lines = counted(game)
    if places > MOST_PLACES:
        raise TooMany("places", MOST_PLACES)
    if many > MOST_INSTANCES:
        raise TooMany("instances", MOST_INSTANCES)
    if lines > MOST_LINES:
        raise TooMany("lines", MOST_LINES)


def _part_lengths(game):
    """How many lines each part has, those of the parts that it uses counted in."""
    lengths = {}
    for statement in game.statements:
        if statement[0] == "part":
            lengths[statement[1]] = _length_of(statement[3], lengths)
    return lengths


def _length_of(lines, lengths):
    return sum([lengths[line[1]] if line[0] == "use" else 1 for line in lines])


def _counted_in(game, statements, lengths, values):
    """How many instances, and lines of them, some statements have with these values of the variables."""
    many = 0
    lines = 0
    for statement in statements:
        if statement[0] == "for":
            more, longer = _counted_in_family(game, statement, lengths, values)
            many += more
            lines += longer
        elif statement[0] != "part":
            many += 1
            lines += _length_of(statement[-1], lengths)
    return many, lines


def _counted_in_family(game, family, lengths, values):
    _, variable, _, statements = family
    row = _values_of(game, family, values)
    # Only the limits of a family further in hang on the value.
    if not any([statement[0] == "for" for statement in statements]):
        many, lines = _counted_in(game, statements, lengths, values)
        return many * len(row), lines * len(row)
    pairs = [_counted_in(game, statements, lengths, {**values, variable: value}) for value in row]
    return sum([many for many, _ in pairs]), sum([lines for _, lines in pairs])


def _values_of(game, family, values):
    """The values of the variable of a family, within families with these values."""
    limits = family[2]
    if limits[0] == "of":
        return dict(game.pieces)[limits[1]]
    low = values.get(limits[1], limits[1])
    high = values.get(limits[2], limits[2])
    if not is_whole(low) or not is_whole(high):
        return ()
    return tuple(range(low, high + 1))


def instances(game):
    """All instances of a game, as rows (sort, name, choices, lines)."""
    need_small(game)
    return tuple(_instances_in(game, game.statements, _part_bodies(game), {}))


def _part_bodies(game):
    """For each part that an instance may use its PARAMs, and its lines without uses."""
    lengths = _part_lengths(game)
    bodies = {}
    for statement in game.statements:
        # A longer part stands in no instance, or the game would have too many lines.
        if statement[0] == "part" and lengths[statement[1]] <= MOST_LINES:
            bodies[statement[1]] = (statement[2], _expanded(statement[3], bodies, {}))
    return bodies


def _expanded(lines, bodies, names):
    """Lines with what names tells in the place of some VALUEs, and without uses."""
    rows = []
    for line in lines:
        row = _replaced(line, names)
        if row[0] == "use":
            params, body = bodies[row[1]]
            passed = {param: value for param, value in zip(params, row[2:])}
            rows.extend([_replaced(each, passed) for each in body])
        else:
            rows.append(row)
    return rows


def _replaced(line, names):
    first = first_value(line)
    return line[:first] + tuple([names.get(value, value) for value in line[first:]])


def first_value(line):
    """The index in a line from which on it has VALUEs."""
    return 2 if line[0] == "use" else 3


def _instances_in(game, statements, bodies, values):
    rows = []
    for statement in statements:
        if statement[0] == "for":
            for value in _values_of(game, statement, values):
                rows.extend(_instances_in(game, statement[3], bodies, {**values, statement[1]: value}))
        elif statement[0] != "part":
            sort, name = (statement[1], statement[2]) if statement[0] == "rule" else ("goal", None)
            lines = tuple(_expanded(statement[-1], bodies, values))
            rows.append((sort, name, tuple(values.values()), lines))
    return rows
