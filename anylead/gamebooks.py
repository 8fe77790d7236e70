"""Games as books, rules that are never open, and games with other names."""

from math import lcm

from anylead.books import Book, Goal, Move
from anylead.doing import done
from anylead.errors import BadName, NoName, TakenName
from anylead.games import Game, standings
from anylead.meaning import first_value, instances
from anylead.words import is_name

SORTS = ("piece", "word", "rule", "part")


def book_of(game):
    """The Book that plays just as a game does."""
    rows = instances(game)
    places = standings(game)
    numbers = {standing: place for place, standing in enumerate(places)}
    moves = []
    goals = []
    for sort, _, _, lines in rows:
        for place, standing in enumerate(places):
            if sort != "goal" and sort != standing[0]:
                continue
            doing = done(game, lines, standing)
            if doing is not None and sort == "goal":
                goals.append(Goal(place, doing.conditions))
            elif doing is not None:
                moves.append(Move(place, doing.conditions, doing.shift, numbers[doing.standing()]))
    return Book([0 if standing[0] == "first" else 1 for standing in places], moves, goals)


def never_open(game):
    """The names of all rules that have no move at any state."""
    states = moving_states(game)
    return tuple([name for name in rule_names(game.statements) if name not in states])


def rule_names(statements):
    """The names of all rules, in order."""
    names = []
    for statement in statements:
        if statement[0] == "rule":
            names.append(statement[2])
        elif statement[0] == "for":
            names.extend(rule_names(statement[3]))
    return names


def moving_states(game):
    """For each rule that has a move at some state such a state (standing, count)."""
    states = {}
    places = standings(game)
    for sort, name, _, lines in instances(game):
        for standing in places:
            if name not in states and sort == standing[0]:
                doing = done(game, lines, standing)
                n = None if doing is None else _some_count(doing.conditions)
                if n is not None:
                    states[name] = (standing, n)
    return states


def _some_count(conditions):
    """A count for which all conditions hold; None if there is none."""
    low = None
    high = None
    barred = {}
    step = 1
    rest = 0
    for condition in conditions:
        word = condition[0]
        k = condition[1]
        if word == "not":
            barred[k] = True
        if word == "least" or word == "is":
            low = k if low is None else max(low, k)
        if word == "most" or word == "is":
            high = k if high is None else min(high, k)
        if word == "rest":
            rest = _common_rest(step, rest, k, condition[2])
            step = lcm(step, k)
            if rest is None:
                return None
    if low is None and high is not None:
        n = high - (high - rest) % step
        step = -step
    else:
        n = rest if low is None else low + (rest - low) % step
    while n in barred:
        n += step
    if (low is not None and n < low) or (high is not None and n > high):
        return None
    return n


def _common_rest(step, rest, m, other_rest):
    """A number with one rest by step and the other by m; None if there is none."""
    for at in range(m):
        n = rest + at * step
        if n % m == other_rest:
            return n
    return None


def renamed(game, sort, old, new):
    """The game with another name for a piece, a WORD, a rule or a part."""
    if not isinstance(sort, str) or sort not in SORTS:
        raise BadName(sort)
    if not is_name(new):
        raise BadName(new)
    names = _names_in(game)
    if not isinstance(old, str) or old not in names[sort]:
        raise NoName(old)
    if new in names[sort]:
        raise TakenName(new)
    if sort == "piece" or sort == "word":
        if new in names["piece"] or new in names["word"] or new in names["other"]:
            raise TakenName(new)
    table = {each: {} for each in SORTS}
    table[sort] = {old: new}
    pieces = [(table["piece"].get(name, name), tuple([table["word"].get(value, value) for value in values]))
              for name, values in game.pieces]
    return Game(game.name, tuple(pieces), _renamed_all(game.statements, table))


def _names_in(game):
    """The names of each sort, and the others: those of variables and PARAMs."""
    names = {"piece": [name for name, _ in game.pieces], "part": [], "other": []}
    names["word"] = [value for _, values in game.pieces for value in values if isinstance(value, str)]
    names["rule"] = rule_names(game.statements)
    todo = list(game.statements)
    while todo:
        statement = todo.pop()
        if statement[0] == "part":
            names["part"].append(statement[1])
            names["other"].extend(statement[2])
        elif statement[0] == "for":
            names["other"].append(statement[1])
            todo.extend(statement[3])
    return names


def _renamed_all(statements, table):
    return tuple([_renamed_statement(statement, table) for statement in statements])


def _renamed_statement(statement, table):
    if statement[0] == "for":
        _, variable, values, statements = statement
        if values[0] == "of":
            values = ("of", table["piece"].get(values[1], values[1]))
        return ("for", variable, values, _renamed_all(statements, table))
    lines = tuple([_renamed_line(line, table) for line in statement[-1]])
    if statement[0] == "rule":
        return ("rule", statement[1], table["rule"].get(statement[2], statement[2]), lines)
    if statement[0] == "part":
        return ("part", table["part"].get(statement[1], statement[1]), statement[2], lines)
    return ("goal", lines)


def _renamed_line(line, table):
    heads = table["part"] if line[0] == "use" else table["piece"]
    values = {**table["piece"], **table["word"]}
    first = first_value(line)
    row = [line[0], heads.get(line[1], line[1])] + list(line[2:first])
    return tuple(row + [values.get(value, value) for value in line[first:]])
