"""Texts of sets that come round."""

from math import lcm

from anylead.errors import BadText, TooMany
from anylead.rounds import LIMIT, Rounds, all_counts, none
from anylead.words import DIGITS


def rounds_text(one):
    """The ONE text of a set that comes round."""
    return str(one)


def read_rounds(text):
    """The set that a text tells."""
    if not isinstance(text, str):
        raise BadText(0, 0)
    if text[:1] == "n":
        _need_word(text, "none")
        return none()
    if text[:1] == "a":
        _need_word(text, "all")
        return all_counts()
    return _set_of(_items(text))


def _need_word(text, word):
    """BadText unless the text is the word, which begins as the text does."""
    at = 1
    while at < len(word) and text[at:at + 1] == word[at]:
        at += 1
    if at < len(word) or len(text) > at:
        raise BadText(1, at + 1)


def _items(text):
    """The items of a text, each a row (sign, number, number or step), the sign one of `.`, `+`, `-`."""
    items = []
    at = 0
    while True:
        first, at = _number(text, at)
        sign = text[at:at + 1]
        if sign == ".":
            if text[at + 1:at + 2] != ".":
                raise BadText(1, at + 2)
            last, at = _number(text, at + 2)
            items.append((".", first, last))
        elif sign == "+" or sign == "-":
            step, at = _digits(text, at + 1, 4)
            items.append((sign, first, step))
        else:
            items.append((".", first, first))
        if at == len(text):
            return items
        if text[at] != ",":
            raise BadText(1, at + 1)
        at += 1


def _number(text, at):
    """The NUMBER that stands at this place of the text, and the place behind it."""
    if text[at:at + 1] == "0":
        return 0, at + 1
    if text[at:at + 1] == "-":
        number, at = _digits(text, at + 1, 6)
        return -number, at
    return _digits(text, at, 6)


def _digits(text, at, most):
    """The number of one to so many digits, the first one not 0, and the place behind it."""
    end = at
    while end < len(text) and end < at + most and text[end] in DIGITS:
        end += 1
    if end == at or text[at] == "0":
        raise BadText(1, at + 1)
    return int(text[at:end]), end


def _set_of(items):
    up = _common_step([item[2] for item in items if item[0] == "+"])
    down = _common_step([item[2] for item in items if item[0] == "-"])
    numbers = [item[1] for item in items] + [item[2] for item in items if item[0] == "."]
    low = min(numbers)
    high = max(numbers)
    if high - low > LIMIT:
        raise TooMany("middle", LIMIT)
    many = high - low + 1
    rising = _stepped([(first - low, step) for sign, first, step in items if sign == "+"], many + up)
    falling = _stepped([(high - first, step) for sign, first, step in items if sign == "-"], many + down)
    runs = _filled([(first - low, last - low) for sign, first, last in items if sign == "."], many)
    middle = [a or b or c for a, b, c in zip(rising[:many], falling[:many][::-1], runs)]
    return Rounds(low, falling[many:][::-1], middle, rising[many:])


def _common_step(steps):
    common = 1
    for step in steps:
        common = lcm(common, step)
        if common > LIMIT:
            raise TooMany("period", LIMIT)
    return common


def _stepped(heads, many):
    """The truths of the places that come from a head (first, step) by adding its step again and again."""
    least = {}
    for first, step in heads:
        key = (step, first % step)
        least[key] = min(first, least.get(key, first))
    row = [False] * many
    for (step, _), first in least.items():
        for at in range(first, many, step):
            row[at] = True
    return row


def _filled(runs, many):
    """The truths of the places that lie in some run (first, last)."""
    changes = [0] * (many + 1)
    for first, last in runs:
        if first <= last:
            changes[first] += 1
            changes[last + 1] -= 1
    row = []
    inside = 0
    for change in changes[:many]:
        inside += change
        row.append(inside > 0)
    return row
