"""[83]: games as books, rules that are never open, and other names."""

import time
import unittest

from anylead.books import Book, Goal, Move, is_goal, open_moves
from anylead.errors import BadName, NoName, TakenName, TooMany
from anylead.gamebooks import book_of, never_open, renamed
from anylead.games import game_of, game_text, place_of, standing_at, standings
from anylead.meaning import counted, is_goal_at, moves_from
from anylead.rounds import at_least, every
from anylead.winners import winners_at
from gamehelpers import KEYWORDS, done_plainly, goal_at_plainly, instances_plainly, moves_plainly, some_game
from helpers import FAR, NO_INTEGERS, error_of, raises, rng
from test_meaning import doubling, small

COUNTS = list(range(-12, 16)) + [FAR + by for by in range(3)] + [-FAR - by for by in range(3)]
NO_NAMES = NO_INTEGERS + ("", "A", "1a", "a b", "a\n", "abcdefghijklm", "\u00e4") + tuple(KEYWORDS)


class Books(unittest.TestCase):
    def test_against_moves_and_goals_at_all_places(self):
        chance = rng(831)
        found = {"moves": 0, "goals": 0}
        for _ in range(250):
            game = small(chance)
            book = book_of(game)
            self.assertIs(type(book), Book)
            self.assertEqual(book.sides, tuple(0 if standing[0] == "first" else 1 for standing in standings(game)))
            for place, standing in enumerate(standings(game)):
                for n in chance.sample(COUNTS, 7):
                    moves = moves_from(game, standing, n)
                    self.assertEqual(moves, moves_plainly(game, standing, n))
                    behind = [(book.moves[index].target, n + book.moves[index].shift) for index in open_moves(book, place, n)]
                    self.assertEqual(behind, [(place_of(game, row[2]), row[3]) for row in moves])
                    self.assertIs(is_goal(book, place, n), goal_at_plainly(game, standing, n))
                    self.assertIs(is_goal_at(game, standing, n), is_goal(book, place, n))
                    found["moves"] += len(moves)
                    found["goals"] += is_goal(book, place, n)
        self.assertGreater(min(found.values()), 1000)

    def test_just_the_moves_and_goals(self):
        # Instance by instance, places ascending; an instance has one for each place from which some count lets it be done.
        chance = rng(832)
        for _ in range(150):
            game = small(chance)
            book = book_of(game)
            moves, goals = [], []
            for sort, name, known, lines in instances_plainly(game):
                for place, standing in enumerate(standings(game)):
                    if sort in ("goal", standing[0]):
                        asked = [line for line in lines if line[:2] != ("when", "count")]
                        ends = [done_plainly(game, lines, known, standing, n) for n in range(-40, 41)]
                        hopeless = done_plainly(game, asked, known, standing, 0) is None
                        if any(ends) or (not hopeless and len(asked) == len(lines) and not any(line[0] == "use" for line in lines)):
                            (goals if sort == "goal" else moves).append(place)
            told = [move.place for move in book.moves]
            # What can be done at no count may come or not, so the told ones are among those in the book, in order.
            for rows, all_rows in ((moves, told), (goals, [goal.place for goal in book.goals])):
                rest = iter(all_rows)
                self.assertTrue(all(place in rest for place in rows))

    def test_conditions_ahead_of_the_move(self):
        game = game_of("""game a
piece p from 0 to 2
first x
  when count least 3
  then count more 5
  when count least 3
  when count most 4
  when count is 5
  when count not 6
  when count rest 4 1
  then count less p
  when count rest 3 p
  when count rest 3 p
  then p is 0
  then count more -1
end
second y
  then again
  when p above 0
  when count rest 30 -30
  then p less 1
end
goal
  when p is 1
  then count more 2
  when count is 2
end
goal
  when p not 2
  then p is 2
end
""")
        book = book_of(game)
        self.assertEqual(book.sides, (0, 0, 0, 1, 1, 1))
        self.assertEqual(len(book.moves), 5)
        for place in (0, 1, 2):
            s = 5 - place
            self.assertTrue(book.moves[place] == Move(place, (("least", 3), ("least", -2), ("most", -1), ("is", 0), ("not", 1), ("rest", 4, 0),
                                                              ("rest", 3, (place - s) % 3), ("rest", 3, (place - s) % 3)), s - 1, 3))
        self.assertTrue(book.moves[3] == Move(4, (("rest", 30, 0),), 0, 3))
        self.assertTrue(book.moves[4] == Move(5, (("rest", 30, 0),), 0, 4))
        self.assertEqual([(goal.place, goal.conditions) for goal in book.goals],
                         [(1, (("is", 0),)), (4, (("is", 0),)), (0, ()), (1, ()), (3, ()), (4, ())])

    def test_count_lines_that_can_not_be_held(self):
        for line in ("when count least b", "when count not p", "when count is first", "when count rest 0 0", "when count rest -1 0",
                     "when count rest b 1", "when count rest 3 b", "then count more p", "then count less second"):
            book = book_of(game_of(f"game a\npiece p is b\nfirst x\nthen again\n{line}\nend\ngoal\n{line}\nend"))
            self.assertEqual((book.moves, book.goals), ((), ()), line)
        book = book_of(game_of("game a\nfirst x\nwhen count least 5\nwhen count most 2\nend"))
        self.assertTrue(book.moves == (Move(0, (("least", 5), ("most", 2)), 0, 1),))

    def test_the_order_of_moves(self):
        game = game_of("game a\npiece p is b c\nfor v of p\nsecond x\nthen p is v\nend\nfirst y\nwhen p not v\nend\nend\nfirst z\nend")
        book = book_of(game)
        self.assertEqual([(move.place, move.target) for move in book.moves],
                         [(2, 0), (3, 0), (1, 3), (2, 1), (3, 1), (0, 2), (0, 2), (1, 3)])

    def test_errors(self):
        great = game_of("game a\npiece p from 1 to 12\npiece q is b c\n")
        many = game_of("game a\n" + "goal\nend\n" * 61)
        for call in (book_of, never_open):
            raises(self, TooMany("places", 24), call, great)
            raises(self, TooMany("instances", 60), call, many)
            raises(self, TooMany("lines", 400), call, game_of(doubling(30)))
        for sort, old, new in (("piece", "p", "r"), ("word", "b", "d")):
            self.assertIsNone(error_of(renamed, great, sort, old, new))


class Never(unittest.TestCase):
    def told(self, *lines, head="piece p from 0 to 3\n"):
        text = "game a\n" + head + "first x\n" + "\n".join(lines) + "\nend\nsecond y\nend\n"
        told = never_open(game_of(text))
        self.assertIn(told, ((), ("x",)))
        return told == ("x",)

    def test_conditions_that_never_hold_together(self):
        for lines, wanted in (((), False), (("when p above 3",), True), (("when p is 3", "then p more 1"), True), (("when turn is second",), True),
                              (("when count least 3", "when count most 2"), True), (("when count least 3", "when count most 3"), False),
                              (("when count least 3", "when count most 3", "when count not 3"), True),
                              (("when count least 3", "when count most 5", "when count not 3", "when count not 5"), False),
                              (("when count least 3", "when count most 5", "when count not 3", "when count not 5", "when count rest 2 1"), True),
                              (("when count is 4", "when count is 5"), True), (("when count is 4", "when count not 5"), False),
                              (("when count is 4", "when count not 4"), True), (("when count is 4", "when count least 5"), True),
                              (("when count is 4", "when count most 3"), True), (("when count is 4", "when count rest 3 0"), True),
                              (("when count rest 2 0", "when count rest 2 1"), True), (("when count rest 4 1", "when count rest 6 4"), True),
                              (("when count rest 4 1", "when count rest 6 3"), False), (("when count rest 8 1", "when count rest 9 2", "when count rest 5 3"), False),
                              (("when count rest 8 1", "when count rest 12 5", "when count rest 9 5", "when count rest 10 4"), True),
                              (("when count rest 8 1", "when count rest 12 5", "when count rest 9 5", "when count rest 10 3"), False),
                              (("when count rest 30 7", "when count least 8", "when count most 30"), True),
                              (("when count rest 30 7", "when count least 7", "when count most 30"), False),
                              (("when count rest 30 7", "when count least -23", "when count most -23"), False),
                              (("when count rest 30 7", "when count least -22", "when count most 6"), True),
                              (("when count not 0", "when count not 1", "when count not -1"), False),
                              (("when count most -30", "when count not -30", "when count not -25", "when count rest 5 0"), False),
                              (("when count least 30", "when count not 30", "when count rest 15 0"), False),
                              (("when count least 3", "then count more 5", "when count most 7"), True),
                              (("when count least 3", "then count more 5", "when count most 8"), False),
                              (("when count rest 2 0", "then count more p", "when count rest 2 1"), False),
                              (("when count rest 2 0", "then count more 1", "when count rest 2 0"), True),
                              (("when count least p", "when count most 2", "when p above 2"), True),
                              (("when count least 5", "when count least 3", "when count most 4"), True),
                              (("when count least 3", "when count least 5", "when count most 4"), True),
                              (("when count most 4", "when count most 6", "when count least 5"), True),
                              (("when count most 6", "when count most 4", "when count least 4"), False),
                              (("when count rest 2 0", "when count least 3", "when count rest 2 1", "when count most 9", "when count rest 3 1"), True),
                              (("when count rest 3 0", "when count least 5"), False), (("when count rest 3 0", "when count most 5"), False),
                              (("when count rest 3 1", "when count most 5", "when count least 5"), True),
                              (("when count rest 3 0", "when count least 4", "when count most 5"), True),
                              (("when count rest 3 0", "when count least 4", "when count most 6", "when count not 6"), True),
                              (("when count most 5", "when count not 5", "when count not 4", "when count least 3"), False),
                              (("when count rest 5 2", "when count is 7"), False), (("when count rest 5 2", "when count is 8"), True)):
            self.assertEqual(self.told(*lines), wanted, lines)

    def test_rules_without_instances(self):
        text = "game a\nfor v from 2 to 1\nfirst x\nend\nend\nfirst y\nend\nfor v from 1 to 2\nfor w from v to 1\nsecond z\nwhen count least v\n" \
               "when count most w\nend\nfirst u\nwhen count least 3\nwhen count most w\nend\nend\nend\n"
        self.assertEqual(never_open(game_of(text)), ("x", "u"))
        self.assertEqual(never_open(game_of("game a\n")), ())

    def test_by_many_counts(self):
        chance = rng(833)
        found = {True: 0, False: 0}
        for _ in range(150):
            game = small(chance)
            names = [name for sort, name, _, _ in instances_plainly(game) if sort != "goal"]
            moving = set()
            for standing in standings(game):
                for sort, name, known, lines in instances_plainly(game):
                    if sort == standing[0] and name not in moving:
                        if any(done_plainly(game, lines, known, standing, n) for n in range(-50, 51)):
                            moving.add(name)
            told = never_open(game)
            rules = [line.split()[1] for line in game_text(game).split("\n") if line.split()[:1] in (["first"], ["second"])]
            self.assertEqual(told, tuple(name for name in rules if name not in moving))
            self.assertTrue(moving <= set(names))
            found[True] += len(told)
            found[False] += len(moving)
        self.assertGreater(min(found.values()), 40, found)


def renamed_plainly(game, sort, old, new):
    """The text of the game, each word of this sort exchanged."""
    pieces = [name for name, _ in game.pieces]
    words = [value for _, values in game.pieces for value in values if isinstance(value, str)]
    lines = []
    for line in game_text(game).split("\n")[:-1]:
        row = line.split(" ")
        sorts = [None] * len(row)

        def value(at):
            sorts[at] = "piece" if row[at] in pieces else "word" if row[at] in words else None
        if row[0] == "piece":
            sorts[1] = "piece"
            if row[2] == "is":
                sorts[3:] = ["word"] * (len(row) - 3)
        elif row[0] in ("first", "second"):
            sorts[1] = "rule"
        elif row[0] == "part":
            sorts[1] = "part"
        elif row[0] == "for" and row[2] == "of":
            sorts[3] = "piece"
        elif row[0] == "use":
            sorts[1] = "part"
            for at in range(2, len(row)):
                value(at)
        elif row[0] in ("when", "then"):
            sorts[1] = "piece" if row[1] in pieces else None
            for at in range(3, len(row)):
                value(at)
        lines.append(" ".join(new if (each, word) == (sort, old) else word for each, word in zip(sorts, row)))
    return "\n".join(lines) + "\n"


class Names(unittest.TestCase):
    alike = game_of("game a\npiece p is b c\npiece q is c d\npart x y p2\nwhen p is y\nthen q is c\nend\npart v x y\nuse x y x\nuse x b p\nend\n"
                    "for y of p\nfirst x\nuse v c y\nwhen p not c\nend\nsecond y\nuse x y c\nend\nend\n")

    def names_of(self, game):
        names = {"piece": [name for name, _ in game.pieces],
                 "word": [value for _, values in game.pieces for value in values if isinstance(value, str)], "rule": [], "part": []}
        for line in game_text(game).split("\n"):
            row = line.split()
            if row[:1] in (["first"], ["second"]):
                names["rule"].append(row[1])
            if row[:1] == ["part"]:
                names["part"].append(row[1])
        return names

    def test_each_sort(self):
        chance = rng(834)
        found = {}
        for game in [self.alike] + [small(chance) for _ in range(150)]:
            before = game_text(game)
            for sort, names in self.names_of(game).items():
                for old in set(names):
                    for new in ("new", "n" * 12, "r0", "take", "x", "red"):
                        error = error_of(renamed, game, sort, old, new)
                        if error is not None:
                            self.assertIs(type(error), TakenName)
                            continue
                        told = renamed(game, sort, old, new)
                        found[sort] = found.get(sort, 0) + 1
                        self.assertEqual(game_text(told), renamed_plainly(game, sort, old, new))
                        self.assertTrue(game_of(game_text(told)) == told)
                        self.assertFalse(told == game)
                        self.assertTrue(renamed(told, sort, new, old) == game)
                        self.assertTrue(book_of(told) == book_of(game))
            self.assertEqual(game_text(game), before)
        self.assertGreater(min(found.values()), 100, found)

    def test_words_that_several_pieces_have(self):
        told = renamed(self.alike, "word", "c", "z")
        self.assertEqual(told.pieces, (("p", ("b", "z")), ("q", ("z", "d"))))
        self.assertEqual(game_text(told).count(" c"), 0)
        self.assertEqual(game_text(told).count(" z"), game_text(self.alike).count(" c"))

    def test_what_looks_alike_stays(self):
        self.assertEqual(game_text(renamed(self.alike, "part", "x", "w")), game_text(self.alike).replace("part x y p2", "part w y p2").replace("use x", "use w"))
        self.assertEqual(game_text(renamed(self.alike, "rule", "y", "w")), game_text(self.alike).replace("second y", "second w"))
        self.assertEqual(game_text(renamed(self.alike, "rule", "x", "v")), game_text(self.alike).replace("first x", "first v"))
        self.assertEqual(game_text(renamed(self.alike, "part", "v", "y")), game_text(self.alike).replace("part v", "part y").replace("use v", "use y"))
        self.assertEqual(game_text(renamed(self.alike, "rule", "x", "a"))[:7], "game a\n")

    def test_errors(self):
        game = self.alike
        for sort in NO_INTEGERS + ("pieces", "", "goal", "variable", "Piece", "x"):
            raises(self, BadName(sort), renamed, game, sort, None, None)
        for sort in ("piece", "word", "rule", "part"):
            for new in NO_NAMES:
                raises(self, BadName(new), renamed, game, sort, None, new)
            for old in NO_INTEGERS + ("", "zz", "turn", "first", "p2", "goal"):
                raises(self, NoName(old), renamed, game, sort, old, "p")
        for sort, old in (("piece", "b"), ("piece", "x"), ("word", "p"), ("word", "y"), ("rule", "v"), ("rule", "p"), ("part", "y"), ("part", "b")):
            raises(self, NoName(old), renamed, game, sort, old, "b")
        for sort, old, taken, free in (("piece", "p", ("p", "q", "b", "c", "d", "x", "y", "p2"), ("v", "a", "u")),
                                       ("word", "b", ("b", "c", "d", "p", "q", "x", "y", "p2"), ("v", "a", "u")),
                                       ("rule", "x", ("x", "y"), ("v", "p", "b", "p2", "a")), ("part", "x", ("x", "v"), ("y", "p", "c", "p2"))):
            for new in taken:
                raises(self, TakenName(new), renamed, game, sort, old, new)
            for new in free:
                self.assertIsNone(error_of(renamed, game, sort, old, new))
        numbers = game_of("game a\npiece p from 0 to 1\n")
        for old in (0, "0", 1, True):
            raises(self, NoName(old), renamed, numbers, "word", old, "b")


class WholeGames(unittest.TestCase):
    def test_a_game_of_taking(self):
        text = "game take\n" + "".join(f"for k from 1 to 3\n{side} {side[0]}\nwhen count least k\nthen count less k\nend\nend\n"
                                       for side in ("first", "second"))
        book = book_of(game_of(text))
        self.assertTrue(winners_at(book, 0) == at_least(0) - every(4, 0))


class Sizes(unittest.TestCase):
    def test_games_of_the_greatest_size(self):
        game = game_of("game a\npiece p from 1 to 12\nfor v from 1 to 30\nfirst x\n" + "when count rest 9 v\nwhen count rest 8 p\nwhen count rest 5 1\n" * 2
                       + "then count more v\nend\nsecond y\n" + "when count not v\n" * 6 + "end\nend\n")
        self.assertEqual(counted(game), (24, 60, 390))
        begin = time.process_time()
        for _ in range(3):
            book = book_of(game)
            self.assertEqual(never_open(game), ())
        self.assertEqual(len(book.moves), 720)
        self.assertEqual(standing_at(game, 13), ("second", 2))
        self.assertLess(time.process_time() - begin, 10)


if __name__ == "__main__":
    unittest.main()
