"""[31], [32]: how it is shown that two places are not alike."""

import unittest

from anylead.alike import Difference, differences, is_alike, shows_unlike
from anylead.books import Book, Goal, Move
from anylead.errors import BadPlace
from helpers import (FAR, NO_INTEGERS, goal_plainly, great_book, open_plainly, raises, rng, some_doubled_book)

NO_PLACES = NO_INTEGERS + (-1, 2, 10 ** 60)
PARTS = ("place", "other", "n", "kind", "index", "answers")
TWO = Book((0, 1), (Move(0, (), -1, 1), Move(1, (), -1, 0)), (Goal(0, (("is", 0),)),))
# Places 0 and 1 differ by a move some moves away, and by an answer; place 5 is a goal.
CHAIN = Book((0,) * 6, (Move(0, (), 1, 2), Move(0, (), 1, 3), Move(1, (), 1, 2), Move(1, (), 1, 2), Move(2, (), 1, 4),
                        Move(3, (("rest", 2, 1),), 1, 5), Move(3, (), 1, 4)), (Goal(5, ()),))


def parts_of(item):
    return tuple(getattr(item, name) for name in PARTS)


def whole(value):
    return type(value) is int


def is_right_plainly(books, row, number):
    """[31], word by word; books are the first and the second one."""
    one, other = books
    item = row[number]
    if not (whole(item.place) and whole(item.other) and whole(item.n) and type(item.answers) is tuple):
        return False
    if not (0 <= item.place < one.places and 0 <= item.other < other.places):
        return False
    goals = [goal_plainly(one, item.place, item.n), goal_plainly(other, item.other, item.n)]
    if item.kind == "side":
        return one.sides[item.place] != other.sides[item.other] and item.index is None and item.answers == ()
    if item.kind == "goal":
        return goals[0] != goals[1] and item.index is None and item.answers == ()
    if item.kind not in ("move", "answer") or any(goals) or not whole(item.index):
        return False
    mine, yours = [(one, item.place), (other, item.other)][::1 if item.kind == "move" else -1]
    if item.index not in open_plainly(mine[0], mine[1], item.n):
        return False
    move = mine[0].moves[item.index]
    wanted = []
    for index in open_plainly(yours[0], yours[1], item.n):
        reply = yours[0].moves[index]
        if reply.shift == move.shift:
            wanted.append((move.target, reply.target)[::1 if item.kind == "move" else -1])
    if len(wanted) != len(item.answers):
        return False
    return all(whole(answer) and 0 <= answer < number and (row[answer].place, row[answer].other) == pair
               for answer, pair in zip(item.answers, wanted))


def shows_plainly(one, place, other, another, told):
    if type(told) is not tuple or not told or not all(type(item) is Difference for item in told):
        return False
    return (all(is_right_plainly((one, other), told, number) for number in range(len(told)))
            and (told[-1].place, told[-1].other) == (place, another))


def chain_book(chance):
    """A book in which places differ, if they do, mostly some moves away."""
    places = chance.randint(5, 8)
    moves = [Move(place, chance.choice([(), (), (("rest", 2, 0),)]), chance.choice([1, 1, -1]), min(place + far, places - 1))
             for place in range(places - 1) for far in (1, chance.randint(1, 2), chance.randint(1, 3))]
    moves += [Move(places - 1, (), 1, places - 1), Move(places - 1, (), -1, places - 1)]
    return Book([1] * places, moves, (Goal(places - 1, (("is", chance.randint(-3, 3)),)),))


def long_cases(many):
    """Rows (one, place, other, another, told), told having three or more items."""
    rows = [(CHAIN, 0, CHAIN, 1, differences(CHAIN, 0, CHAIN, 1)), (CHAIN, 1, CHAIN, 0, differences(CHAIN, 1, CHAIN, 0))]
    chance = rng(321)
    while len(rows) < many:
        one, other = chain_book(chance), chain_book(chance)
        place, another = chance.randrange(3), chance.randrange(3)
        told = differences(one, place, other, another)
        if told is not None and len(told) >= 3:
            rows.append((one, place, other, another, told))
    return rows


def changed_items(item):
    """The Difference with one field changed, in many ways."""
    parts = parts_of(item)
    values = [0, 1, 2, 3, -1, item.place + 1, True, False, None, "0", 1.0, (), (0,), [1], FAR, "move", "answer", "side", "goal", "",
              b"move", object()]
    for at in range(6):
        for value in values:
            yield Difference(*parts[:at], value, *parts[at + 1:])
    yield Difference(*parts[:2], item.n + 1, *parts[3:])
    if isinstance(item.index, int):
        yield Difference(*parts[:4], item.index + 1, parts[5])
    for at, answer in enumerate(item.answers):
        for value in (answer + 1, answer - 1, bool(answer), float(answer), str(answer), None, (answer,), FAR):
            yield Difference(*parts[:5], item.answers[:at] + (value,) + item.answers[at + 1:])
        yield Difference(*parts[:5], item.answers[:at] + item.answers[at + 1:])
        yield Difference(*parts[:5], item.answers[:at] + (answer,) + item.answers[at:])
    yield Difference(*parts[:5], item.answers + (0,))
    yield Difference(*parts[:5], item.answers[::-1])


class Told(unittest.TestCase):
    def test_alike_or_shown(self):
        chance = rng(311)
        many = {}
        for number in range(60):
            make = some_doubled_book if number % 2 else chain_book
            one, other = make(chance), make(chance)
            for first, second in ((one, one), (one, other)):
                for place in range(first.places):
                    for another in range(second.places):
                        told = differences(first, place, second, another)
                        if is_alike(first, place, second, another):
                            self.assertIsNone(told)
                            continue
                        self.assertTrue(shows_plainly(first, place, second, another, told))
                        self.assertIs(shows_unlike(first, place, second, another, told), True)
                        pairs = [(item.place, item.other) for item in told]
                        self.assertEqual(len(pairs), len(set(pairs)))
                        for item in told:
                            many[item.kind] = many.get(item.kind, 0) + 1
        self.assertEqual(sorted(many), ["answer", "goal", "move", "side"])
        self.assertGreater(min(many.values()), 20, many)

    def test_a_long_row(self):
        line = Book([0] * 12, [Move(p, (("rest", 5, 0),), 1, p + 1) for p in range(11)], (Goal(11, (("is", -12),)),))
        for place in range(12):
            for another in range(12):
                told = differences(line, place, line, another)
                self.assertEqual(told is None, place == another)
                if told is not None:
                    self.assertTrue(shows_plainly(line, place, line, another, told))
                    self.assertIs(shows_unlike(line, place, line, another, told), True)

    def test_the_greatest_sizes(self):
        chance = rng(312)
        one, other = great_book(chance), great_book(chance)
        for place in range(12):
            told = differences(one, place, other, 3)
            self.assertEqual(told is None, is_alike(one, place, other, 3))
            if told is not None:
                self.assertTrue(shows_plainly(one, place, other, 3, told))

    def test_errors(self):
        for call, last in ((differences, ()), (shows_unlike, (None,))):
            for place in NO_PLACES:
                raises(self, BadPlace(place), call, TWO, place, TWO, None, *last)
                raises(self, BadPlace(place), call, TWO, 1, TWO, place, *last)
            raises(self, BadPlace(3), call, TWO, 1, Book((0, 0, 0), (), ()), 3, *last)


class Judged(unittest.TestCase):
    def judged(self, case, told):
        wanted = shows_plainly(*case[:4], told)
        self.assertIs(shows_unlike(*case[:4], told), wanted, told)
        return wanted

    def test_one_field_changed_at_any_place(self):
        found = {True: 0, False: 0}
        for case in long_cases(25):
            told = case[4]
            for number, item in enumerate(told):
                for changed in changed_items(item):
                    found[self.judged(case, told[:number] + (changed,) + told[number + 1:])] += 1
        self.assertGreater(found[False], 2000)
        self.assertGreater(found[True], 50)

    def test_items_left_out_doubled_or_put_elsewhere(self):
        for case in long_cases(40):
            told = case[4]
            for number, item in enumerate(told):
                rest = told[:number] + told[number + 1:]
                self.judged(case, rest)
                self.judged(case, told[:number] + (item,) + told[number:])
                for at in range(len(told)):
                    self.judged(case, rest[:at] + (item,) + rest[at:])
            self.assertIs(shows_unlike(*case[:4], told + told), shows_plainly(*case[:4], told + told))
            self.assertIs(shows_unlike(*case[:4], ()), False)
            self.assertIs(shows_unlike(*case[:4], told[:-1]), shows_plainly(*case[:4], told[:-1]))

    def test_integers_are_no_bools(self):
        told = differences(CHAIN, 0, CHAIN, 1)
        self.assertIs(shows_unlike(CHAIN, 0, CHAIN, 1, told), True)
        for number, item in enumerate(told):
            for at, value in enumerate(parts_of(item)[:5]):
                if whole(value) and value in (0, 1):
                    bent = Difference(*parts_of(item)[:at], bool(value), *parts_of(item)[at + 1:])
                    self.assertTrue(bent == item)
                    self.assertIs(shows_unlike(CHAIN, 0, CHAIN, 1, told[:number] + (bent,) + told[number + 1:]), False)
            for at, value in enumerate(item.answers):
                if value in (0, 1):
                    answers = item.answers[:at] + (bool(value),) + item.answers[at + 1:]
                    bent = Difference(*parts_of(item)[:5], answers)
                    self.assertIs(shows_unlike(CHAIN, 0, CHAIN, 1, told[:number] + (bent,) + told[number + 1:]), False)

    def test_each_kind_by_hand(self):
        side, goal = Difference(0, 1, 5, "side", None, ()), Difference(0, 1, 0, "goal", None, ())
        self.assertIs(shows_unlike(TWO, 0, TWO, 1, (side,)), True)
        self.assertIs(shows_unlike(TWO, 0, TWO, 1, (goal,)), True)
        self.assertIs(shows_unlike(TWO, 0, TWO, 1, (Difference(0, 1, 1, "goal", None, ()),)), False)
        self.assertIs(shows_unlike(TWO, 0, TWO, 0, (Difference(0, 0, 1, "side", None, ()),)), False)
        self.assertIs(shows_unlike(TWO, 1, TWO, 0, (side,)), False)
        self.assertIs(shows_unlike(TWO, 0, TWO, 1, (Difference(1, 0, FAR, "side", None, ()), side)), True)
        self.assertIs(shows_unlike(TWO, 0, TWO, 1, (side, Difference(1, 0, FAR, "side", None, ()))), False)
        # At a goal of one of both moves tell nothing, far out and near.
        self.assertIs(shows_unlike(TWO, 0, TWO, 1, (side, Difference(0, 1, 0, "move", 0, (0,)))), False)
        goal_here = Book((0, 0), (Move(1, (), 1, 0),), (Goal(0, ()),))
        self.assertIs(shows_unlike(TWO, 0, goal_here, 0, (Difference(0, 0, 5, "move", 0, ()),)), False)
        self.assertIs(shows_unlike(goal_here, 0, TWO, 0, (Difference(0, 0, 5, "answer", 0, ()),)), False)
        self.assertIs(shows_unlike(goal_here, 0, goal_here, 1, (Difference(0, 1, 5, "answer", 0, ()),)), False)
        self.assertIs(shows_unlike(goal_here, 1, goal_here, 0, (Difference(1, 0, 5, "move", 0, ()),)), False)
        bare = Book((0, 0), (), ())
        three = Book((0, 1, 0), (), ())
        self.assertIs(shows_unlike(three, 0, three, 1, (Difference(2, 1, 0, "side", None, ()),)), False)
        self.assertIs(shows_unlike(three, 1, three, 0, (Difference(1, 2, 0, "side", None, ()),)), False)
        self.assertIs(shows_unlike(TWO, 0, bare, 1, (Difference(0, 1, FAR, "move", 0, ()),)), True)
        self.assertIs(shows_unlike(TWO, 0, bare, 1, (Difference(0, 1, 0, "move", 0, ()),)), False)
        self.assertIs(shows_unlike(TWO, 0, bare, 1, (Difference(0, 1, FAR, "answer", 0, ()),)), False)
        self.assertIs(shows_unlike(bare, 1, TWO, 0, (Difference(1, 0, -FAR, "answer", 0, ()),)), True)
        self.assertIs(shows_unlike(bare, 1, TWO, 0, (Difference(1, 0, -FAR, "move", 0, ()),)), False)

    def test_lists_in_the_place_of_tuples(self):
        told = differences(CHAIN, 0, CHAIN, 1)
        self.assertIs(shows_unlike(CHAIN, 0, CHAIN, 1, list(told)), False)
        made = Difference(0, 1, 5, "side", None, [])
        self.assertIs(shows_unlike(TWO, 0, TWO, 1, (made,)), True)
        made.answers = []
        self.assertIs(shows_unlike(TWO, 0, TWO, 1, (made,)), False)

    def test_values_that_are_no_rows_of_differences(self):
        side = Difference(0, 1, 5, "side", None, ())
        values = [None, 0, True, "side", b"", (), [], {}, set(), object(), Difference, side, [side], {0: side}, iter((side,)), (None,),
                  (side, None), (parts_of(side),), ((side,),), (0, side), range(3), 1.5, float("nan"), lambda: 0, TWO]
        values += [(Difference(*[value] * 6),) for value in values if value is not side]
        values += [(Difference(0, 1, 5, "side", None, value),) for value in values]
        values += [(Difference(0, 1, 5, value, None, ()), side) for value in values]
        for value in values:
            self.assertIs(shows_unlike(TWO, 0, TWO, 1, value), shows_plainly(TWO, 0, TWO, 1, value), value)


class Kept(unittest.TestCase):
    def test_what_is_given_is_kept_with_lists_as_tuples(self):
        self.assertEqual(parts_of(Difference(0, 1, 2, "move", 3, [4, [5]])), (0, 1, 2, "move", 3, (4, (5,))))
        thing = object()
        item = Difference(None, thing, "n", [1, [2]], {}, 5)
        self.assertEqual(parts_of(item), (None, thing, "n", (1, (2,)), {}, 5))

    def test_equal(self):
        parts = (0, 1, 2, "move", 3, (4,))
        item = Difference(*parts)
        self.assertTrue(item == Difference(0, 1, 2, "move", 3, [4]))
        self.assertFalse(item != Difference(*parts))
        for at in range(6):
            self.assertFalse(item == Difference(*parts[:at], "other", *parts[at + 1:]))
            self.assertTrue(item != Difference(*parts[:at], "other", *parts[at + 1:]))
        for other in (None, 0, parts, "move", TWO):
            self.assertFalse(item == other)


if __name__ == "__main__":
    unittest.main()
