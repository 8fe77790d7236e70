"""Promises about the items of a desk: how they are read, and whether they are kept."""

from anylead.alike import likeness
from anylead.errors import BadPromise, BadText, TooMany
from anylead.gamebooks import book_of, moving_states, rule_names
from anylead.games import place_of, state_text, take_standing
from anylead.reading import Line
from anylead.roundtexts import read_rounds
from anylead.winners import winners
from anylead.words import words_of


class Answers:
    """What has been reckoned of games, by their texts, so that it is reckoned once."""

    def __init__(self, known):
        self.known = {key: known[key] for key in known}

    def book_for(self, item):
        """The Book of an item, a row (name, text, game)."""
        key = ("book", item[1])
        if key not in self.known:
            self.known[key] = book_of(item[2])
        return self.known[key]

    def counts_for(self, item, standing):
        """The Rounds of all counts at which FIRST can force the wish from a standing of an item."""
        book = self.book_for(item)
        place = place_of(item[2], standing)
        key = ("winners", item[1])
        if key not in self.known:
            self.known[key] = winners(book)
        return self.known[key].at(place)

    def states_for(self, item):
        """For each rule of an item that has a move somewhere such a state."""
        key = ("states", item[1])
        if key not in self.known:
            self.known[key] = moving_states(item[2])
        return self.known[key]

    def unlike(self, item, other):
        """Whether the books of two items are alike, place by place, and the least place that is not."""
        book = self.book_for(item)
        other_book = self.book_for(other)
        key = ("like", item[1], other[1])
        if key not in self.known:
            self.known[key] = _unlike(book, other_book)
        return self.known[key]


def _unlike(book, other):
    if book.places != other.places:
        return False, None
    pairs = {pair: True for pair in likeness(book, other)}
    for place in range(book.places):
        if (place, place) not in pairs:
            return False, place
    return True, None


def ask(answers, items, promise):
    """Whether a promise about the items, rows (name, text, game), is kept, and its witness, or None."""
    told = _read(items, promise)
    kind = told[0]
    if kind == "like":
        return answers.unlike(told[1], told[2])
    if kind == "never":
        states = answers.states_for(told[1])
        if told[2] not in states:
            return True, None
        standing, n = states[told[2]]
        return False, state_text(told[1][2], standing, n)
    if kind == "inside":
        _, item, standing, other, other_standing = told
        answers.book_for(item)
        answers.book_for(other)
        wrong = answers.counts_for(item, standing) - answers.counts_for(other, other_standing)
    else:
        _, item, standing, text = told
        counts = read_rounds(text)
        found = answers.counts_for(item, standing)
        wrong = counts - found if kind == "wins" else counts & found
    return not wrong, wrong.nearest(0)


def _read(items, promise):
    """What a promise tells, as a row (kind, item, ..)."""
    if not isinstance(promise, str):
        raise BadPromise(0)
    line = Line(1, words_of(promise))
    try:
        told = _read_line({item[0]: item for item in items}, line)
        line.close()
        return told
    except BadText as wrong:
        raise BadPromise(wrong.column)


def _read_line(items, line):
    item = items[line.take(items)]
    if line.word() == "like":
        line.take(("like",))
        return ("like", item, items[line.take(items)])
    if line.word() in rule_names(item[2].statements):
        rule = line.word()
        line.take((rule,))
        line.take(("never",))
        return ("never", item, rule)
    standing = take_standing(item[2], line)
    kind = line.take(("wins", "safe", "inside"))
    if kind == "inside":
        other = items[line.take(items)]
        return (kind, item, standing, other, take_standing(other[2], line))
    text = line.word()
    if text is None or not _is_set_text(text):
        line.fail()
    line.take((text,))
    return (kind, item, standing, text)


def _is_set_text(text):
    """Whether a word is a text of a set, be it too great or not."""
    try:
        read_rounds(text)
        return True
    except BadText:
        return False
    except TooMany:
        return True


def with_names(promise, name, new):
    """The promise with the new name in the place of that of an item."""
    words = promise.split(" ")
    places = item_places(words)
    return " ".join([new if at in places and word == name else word for at, word in enumerate(words)])


def item_places(words):
    """The indices of the words of a promise that stand for items."""
    for word in ("inside", "like"):
        if word in words:
            return [0, words.index(word) + 1]
    return [0]


def names_item(promise, name):
    """Whether a promise is about the item with this name."""
    words = promise.split(" ")
    return name in [words[at] for at in item_places(words)]
