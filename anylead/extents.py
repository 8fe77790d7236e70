"""What rows of conditions say of far counts: by which step they come again, and from where on."""

from math import lcm


def condition_rows(book):
    """The conditions of all moves and goals of a book."""
    return [rule.conditions for rule in book.moves + book.goals]


def common_step(steps):
    """The least common multiple of some integers from 1 on; 1 if there are none."""
    common = 1
    for step in steps:
        common = lcm(common, step)
    return common


def rest_step(rows):
    """The least common multiple of all m of the rest conditions in some rows of conditions."""
    return common_step([condition[1] for row in rows for condition in row if condition[0] == "rest"])


def limits_of(rows):
    """All k of the other conditions in some rows of conditions."""
    return [condition[1] for row in rows for condition in row if condition[0] != "rest"]


def span_of(limits):
    """The least and the greatest of some integers; an empty span if there are none."""
    if not limits:
        return 0, -1
    return min(limits), max(limits)
