"""The least numbers of turns with which FIRST forces the wish, on finitely many states."""

from anylead.books import all_hold


def by_place(rules, places):
    """For each place the list of its moves, or of its goals."""
    rows = [[] for place in range(places)]
    for rule in rules:
        rows[rule.place].append(rule)
    return rows


def indices_by_place(rules, places):
    """For each place the ascending list of the indices of its moves, or of its goals."""
    rows = [[] for place in range(places)]
    for index, rule in enumerate(rules):
        rows[rule.place].append(index)
    return rows


def states_behind(moves, n):
    """The states behind those moves of a list that are open at the count n."""
    return [(move.target, n + move.shift) for move in moves if all_hold(move.conditions, n)]


def some_holds(goals, n):
    for goal in goals:
        if all_hold(goal.conditions, n):
            return True
    return False


def rounds_won(sides, ends, ways, most):
    """The states from which FIRST forces the wish within most turns, each with its least number.

    ends has the states with the number 0, ways each other state with the states behind its moves;
    what stands in neither is never won."""
    sources = {}
    left = {}
    for state, targets in ways.items():
        left[state] = len(targets)
        for target in targets:
            sources.setdefault(target, []).append(state)
    turns = {state: 0 for state in ends}
    newest = list(ends)
    number = 0
    while newest and number < most:
        number += 1
        found = []
        for state in newest:
            for source in sources.get(state, []):
                if source in turns:
                    continue
                left[source] -= 1
                if sides[source[0]] == 0 or left[source] == 0:
                    turns[source] = number
                    found.append(source)
        newest = found
    return turns


def turns_within(book, starts, most):
    """The least numbers of turns, up to most, of those of the starting states that FIRST wins so."""
    moves = by_place(book.moves, book.places)
    goals = by_place(book.goals, book.places)
    ends = {}
    ways = {}
    seen = {state: True for state in starts}
    newest = list(starts)
    depth = 0
    # A state that is met only behind all the turns can still help by being an end, not by its moves.
    while newest:
        found = []
        for state in newest:
            place, n = state
            targets = states_behind(moves[place], n)
            if some_holds(goals[place], n) or (book.sides[place] == 1 and not targets):
                ends[state] = True
            elif depth < most:
                ways[state] = targets
                for target in targets:
                    if target not in seen:
                        seen[target] = True
                        found.append(target)
        newest = found
        depth += 1
    return rounds_won(book.sides, ends, ways, most)


def turns_between(book, low, high, beyond):
    """The least numbers of turns of all states that FIRST wins in the game within low and high.

    They include, with the number 0, those states beyond to which a move leads, if beyond is True."""
    moves = by_place(book.moves, book.places)
    goals = by_place(book.goals, book.places)
    ends = {}
    ways = {}
    for place in range(book.places):
        for n in range(low, high + 1):
            targets = states_behind(moves[place], n)
            if some_holds(goals[place], n) or (book.sides[place] == 1 and not targets):
                ends[(place, n)] = True
                continue
            ways[(place, n)] = targets
            if beyond:
                for target in targets:
                    if target[1] < low or target[1] > high:
                        ends[target] = True
    return rounds_won(book.sides, ends, ways, len(ways))
