"""[74] to [78]: texts of games, standings and states."""

import time
import unittest

from anylead.errors import BadNumber, BadPlace, BadRow, BadText
from anylead.games import Game, game_of, game_text, place_of, standing_at, standings, state_of, state_text
from gamehelpers import INTEGERS, KEYWORDS, name_plainly, some_text, spaced, wrong_plainly
from helpers import FAR, NO_INTEGERS, error_of, raises, rng

FULL = """game heap
piece hue is red blue
piece size from -1 to 2

part take n m
  when count least n
  then count less n
  then size is m
end
part none
end
part both x y z
  use take x size
  use none
  when hue not y
  then hue is z
end
first one
  when turn is first
  use both 3 red blue
  then again
end
for v of hue
  second two
    when hue is v
    when size above -1
    when size below 2
    then size more 1
  end
  for w from 0 to 2
    goal
      when count rest 3 w
      when hue not v
    end
    for q from w to 30
    end
  end
end
""".replace("    for q from w to 30\n    end\n", "")
NO_STRINGS = (None, 5, True, b"game a", ["game a"], ("game a",), 1.5, {}, object())


def wrong(test, text, line, column):
    raises(test, BadText(line, column), game_of, text)
    test.assertEqual(wrong_plainly(text), (line, column), text)


class Texts(unittest.TestCase):
    def test_what_is_kept(self):
        game = game_of(FULL)
        self.assertIs(type(game), Game)
        self.assertEqual(game.name, "heap")
        self.assertEqual(game.pieces, (("hue", ("red", "blue")), ("size", (-1, 0, 1, 2))))
        part, empty, both, rule, family = game.statements
        self.assertEqual(part, ("part", "take", ("n", "m"), (("when", "count", "least", "n"), ("then", "count", "less", "n"),
                                                            ("then", "size", "is", "m"))))
        self.assertEqual(empty, ("part", "none", (), ()))
        self.assertEqual(both[3], (("use", "take", "x", "size"), ("use", "none"), ("when", "hue", "not", "y"), ("then", "hue", "is", "z")))
        self.assertEqual(rule, ("rule", "first", "one", (("when", "turn", "is", "first"), ("use", "both", 3, "red", "blue"),
                                                         ("then", "again"))))
        self.assertEqual(family[:3], ("for", "v", ("of", "hue")))
        self.assertEqual(family[3][0], ("rule", "second", "two", (("when", "hue", "is", "v"), ("when", "size", "above", -1),
                                                                  ("when", "size", "below", 2), ("then", "size", "more", 1))))
        self.assertEqual(family[3][1], ("for", "w", ("from", 0, 2), (("goal", (("when", "count", "rest", 3, "w"),
                                                                               ("when", "hue", "not", "v"))),)))
        self.assertTrue(all(type(value) is int for value in game.pieces[1][1]))

        def rows(value):
            return type(value) in (str, int) or (type(value) is tuple and all(rows(item) for item in value))
        self.assertTrue(rows(game.pieces) and rows(game.statements))

    def test_the_least_texts(self):
        for text in ("game a", "game a\n", "\n\ngame a\n\n", "  game   a  ", "game a\n \n  "):
            game = game_of(text)
            self.assertEqual((game.name, game.pieces, game.statements), ("a", (), ()))
            self.assertEqual(game_text(game), "game a\n")
        self.assertEqual(game_of("game a\nfirst x\nend\ngoal\nend\nfor v from 3 to 1\nend").statements,
                         (("rule", "first", "x", ()), ("goal", ()), ("for", "v", ("from", 3, 1), ())))
        self.assertEqual(game_of("game a\nfor v from -30 to 30\nfor w from v to v\nend\nend").statements[0][3],
                         (("for", "w", ("from", "v", "v"), ()),))
        self.assertEqual(game_of("game a\npiece b from 19 to 30\npiece c from 30 to 30\npiece d is e\npiece f is e g h i j k").pieces[1:],
                         (("c", (30,)), ("d", ("e",)), ("f", ("e", "g", "h", "i", "j", "k"))))

    def test_game_text(self):
        self.assertEqual(game_text(game_of(FULL)), "".join(" ".join(line.split()) + "\n" for line in FULL.split("\n") if line))
        chance = rng(771)
        for _ in range(400):
            text = some_text(chance)
            other = spaced(chance, text)
            game = game_of(text)
            self.assertTrue(game_of(other) == game)
            plain = game_text(game)
            self.assertEqual(game_text(game_of(other)), plain)
            self.assertEqual(plain, "".join(" ".join(line.split()) + "\n" for line in text.split("\n")[:-1]))
            self.assertTrue(game_of(plain) == game)

    def test_equal_games(self):
        game = game_of(FULL)
        self.assertTrue(game == game_of(FULL))
        for old, new in (("game heap", "game heaps"), ("red blue", "red green"), ("-1 to 2", "-1 to 3"), ("then size more 1", "then size more 2"), ("then again\n", ""),
                         ("rest 3 w", "rest 4 w"), ("first one", "first ones")):
            self.assertFalse(game == game_of(FULL.replace(old, new)))
        for value in (None, 5, "game heap", FULL, (game.name, game.pieces, game.statements)):
            self.assertFalse(game == value)
        self.assertFalse(game_of("game a\nfirst x\nend") == game_of("game a\nsecond x\nend"))

    def test_what_is_no_string(self):
        for value in NO_STRINGS:
            raises(self, BadText(0, 0), game_of, value)


HEAD = "game a\npiece p is r b\npiece q from 0 to 3\npart t x y\nend\npart e\nend\n"


class FirstWrongWords(unittest.TestCase):
    def test_empty_and_broken_off(self):
        for text, place in (("", (1, 1)), ("\n", (2, 1)), ("\n\n", (3, 1)), ("  ", (2, 1)), (" \n ", (3, 1)), ("game", (1, 2)),
                            ("game\n", (1, 2)), ("game a\nfirst x", (3, 1)), ("game a\nfirst x\n", (3, 1)), ("game a\nfirst x\n\n", (4, 1)),
                            ("game a\ngoal\nthen again", (4, 1)), ("game a\npart t\n", (3, 1)), ("game a\nfor v from 1 to 2\ngoal\nend", (5, 1)),
                            ("game a\nfor v from 1 to 2\n\n \n", (5, 1)), ("game a\npiece", (2, 2)), ("game a\npiece b is", (2, 4)),
                            ("game a\npiece b is\n", (2, 4)), ("game a\nfor v from", (2, 4)), ("game a\ngoal\nwhen count", (3, 3))):
            wrong(self, text, *place)

    def test_the_first_lines(self):
        for text, place in (("games a", (1, 1)), ("a", (1, 1)), ("\n first", (2, 1)), ("game game", (1, 2)), ("game a b", (1, 3)),
                            ("game A", (1, 2)), ("game 1a", (1, 2)), ("game a-b", (1, 2)), ("game abcdefghijklm", (1, 2)),
                            ("game a\ngame b", (2, 1)), ("game a\nend", (2, 1)), ("game a\nwhen count least 1", (2, 1)),
                            ("game a\nuse x", (2, 1)), ("game a\ngoal\nend\npiece b is c", (4, 1)), ("game\ta", (1, 1)), ("game a\r\n", (1, 2)),
                            ("game a\ngoal\nend\nend", (4, 1)), ("game a\nfor v from 1 to 2\nend\nend", (4, 1))):
            wrong(self, text, *place)
        self.assertIsNone(error_of(game_of, "game abcdefghijkl"))

    def test_pieces(self):
        for line, column in (("piece", 2), ("piece 3", 2), ("piece is", 2), ("piece b", 3), ("piece b of", 3), ("piece b is", 4),
                             ("piece b is b", 4), ("piece b is c b", 5), ("piece b is c c", 5), ("piece b is 3", 4), ("piece b is first", 4),
                             ("piece b is c d e f g h i", 10), ("piece b from", 4), ("piece b from c", 4), ("piece b from 31", 4),
                             ("piece b from 1", 5), ("piece b from 1 2", 5), ("piece b from 1 to", 6), ("piece b from 1 to 0", 6),
                             ("piece b from 1 to 13", 6), ("piece b from 25 to 31", 6), ("piece b from -30 to -18", 6),
                             ("piece b from 1 to 2 3", 7), ("piece b from 1 to 2 end", 7)):
            wrong(self, "game a\n" + line, 2, column)
            wrong(self, "game a\n\n" + line + "\nfirst", 3, column)
        for lines, place in (("piece b is c\npiece b is d", (3, 2)), ("piece b is c\npiece c is d", (3, 2)), ("piece b is c\npiece d is b", (3, 4)),
                             ("piece b is c\npiece d is c e b", (3, 6)), ("piece b is c\npiece d from 0 to 1\npiece e is d", (4, 4)),
                             ("piece b is c\npiece d is c\npiece e is c\npiece f is c\npiece g is c", (6, 1))):
            wrong(self, "game a\n" + lines, *place)

    def test_integers_as_they_are_written(self):
        for word in ("+1", "01", "-0", "00", "1.0", "1_0", "--1", "-", "\u0661", "\u00b2", "31", "-31", "1e1", "0x1", "\uff11", "10 ", "- 1"):
            text = "game a\ngoal\nwhen count least " + word
            if word == "10 ":
                self.assertIsNone(error_of(game_of, text + "\nend"))
                continue
            wrong(self, text, 3, 4)
            wrong(self, "game a\npiece b from " + word, 2, 4)
            wrong(self, "game a\nfor v from 1 to " + word, 2, 6)
        for word in INTEGERS:
            self.assertEqual(game_of(f"game a\ngoal\nwhen count is {word}\nend").statements[0][1][0][3], int(word))

    def test_heads_of_statements(self):
        for lines, place in (("first", (1, 2)), ("first 3", (1, 2)), ("first end", (1, 2)), ("first x y", (1, 3)), ("second", (1, 2)),
                             ("second x 1", (1, 3)), ("goal x", (1, 2)), ("part", (1, 2)), ("part t", (1, 2)), ("part e", (1, 2)),
                             ("part f x x", (1, 4)), ("part f p", (1, 3)), ("part f x r", (1, 4)), ("part f 1", (1, 3)), ("part f first", (1, 3)),
                             ("part f x y z u", (1, 6)), ("first x\nend\nfirst x", (3, 2)), ("first x\nend\nsecond x", (3, 2)),
                             ("for", (1, 2)), ("for p", (1, 2)), ("for r", (1, 2)), ("for 1", (1, 2)), ("for v", (1, 3)), ("for v in", (1, 3)),
                             ("for v of", (1, 4)), ("for v of x", (1, 4)), ("for v of r", (1, 4)), ("for v of turn", (1, 4)),
                             ("for v of count", (1, 4)), ("for v of p p", (1, 5)), ("for v from", (1, 4)), ("for v from v", (1, 4)),
                             ("for v from p", (1, 4)), ("for v from r", (1, 4)), ("for v from 31", (1, 4)), ("for v from 1", (1, 5)),
                             ("for v from 1 of", (1, 5)), ("for v from 1 to", (1, 6)), ("for v from 1 to v", (1, 6)), ("for v from 1 to 2 3", (1, 7)),
                             ("for v of p\nfor v", (2, 2)), ("for v of p\nfor w from v to w", (2, 6)), ("for v of p\npart", (2, 1)),
                             ("for v of p\npiece", (2, 1)), ("for v of p\nwhen", (2, 1)), ("for v of p\nend v", (2, 2)),
                             ("for v of p\nfor w of p\nfor", (3, 1)), ("for v of p\nfor w of p\nend\nend\nend", (5, 1)),
                             ("for v of p\nfirst x\nend\nend\nfor v of p\nfirst x", (6, 2)), ("first x\nfirst", (2, 1)), ("first x\ngoal", (2, 1)),
                             ("first x\nfor", (2, 1)), ("first x\nend end", (2, 2)), ("part f\npart", (2, 1)), ("piece z is f", (1, 1))):
            wrong(self, HEAD + lines, place[0] + 7, place[1])
        self.assertIsNone(error_of(game_of, HEAD + "for v of p\nend\nfor v of q\nfirst t\nend\nend\npart v v t\nend\nfirst v\nend\nfirst a\nend"))
        wrong(self, "game a\nfor v of", 2, 3)
        wrong(self, "game a\nfor v of p", 2, 3)

    def test_lines(self):
        for line, column in (("when", 2), ("when x", 2), ("when r", 2), ("when again", 2), ("when p", 3), ("when p least", 3), ("when p more", 3),
                             ("when p is", 4), ("when p is x", 4), ("when p is turn", 4), ("when p is count", 4), ("when p is again", 4),
                             ("when p is t", 4), ("when p is 31", 4), ("when p is r b", 5), ("when turn", 3), ("when turn rest", 3),
                             ("when turn is", 4), ("when count", 3), ("when count above", 3), ("when count below 3", 3), ("when count more", 3),
                             ("when count least", 4), ("when count least 1 2", 5), ("when count rest", 4), ("when count rest 3", 5),
                             ("when count rest 3 x", 5), ("when count rest 3 1 1", 6), ("when count is v", 4), ("then", 2), ("then turn", 2),
                             ("then turn is first", 2), ("then x", 2), ("then p", 3), ("then p not", 3), ("then p least", 3), ("then p is", 4),
                             ("then p is 1 1", 5), ("then p more", 4), ("then p less x", 4), ("then count", 3), ("then count is 1", 3),
                             ("then count more", 4), ("then count less 40", 4), ("then count more p q", 5), ("then again 1", 3),
                             ("then again again", 3), ("use", 2), ("use x", 2), ("use f", 2), ("use p", 2), ("use t", 3), ("use t 1", 4),
                             ("use t x", 3), ("use t 1 2 3", 5), ("use e 1", 3), ("first", 1), ("else", 1), ("3", 1), ("part", 1), ("end 1", 2)):
            for head in ("first one\n", "goal\n", "part f\n"):
                wrong(self, HEAD + head + line, 9, column)
                wrong(self, HEAD + head + "then again\n\n" + line + "\nend", 11, column)
        for value in ("r", "b", "p", "q", "first", "second", "30", "-30"):
            for line in ("when p is", "when q not", "when p above", "when turn below", "when count least", "when count most", "when count rest 3",
                         "when count is", "when count not", "then p is", "then p more", "then q less", "then count more", "then count less",
                         "use t p"):
                self.assertIsNone(error_of(game_of, f"{HEAD}goal\n{line} {value}\nend"))

    def test_names_known_where_they_stand(self):
        for text, place in (("part f v\nwhen p is v\nend\nfirst x\nwhen p is v", (5, 4)), ("for v of p\nend\nfirst x\nwhen p is v", (4, 4)),
                            ("for v of p\nfirst x\nwhen p is w", (3, 4)), ("for v of p\nfor w of p\nend\ngoal\nwhen p is w", (5, 4)),
                            ("part f\nuse f", (2, 2)), ("part f\nuse g\nend\npart g", (2, 2)), ("part f v\nuse t v w", (2, 4)),
                            ("for v of p\ngoal\nuse v", (3, 2)), ("for v of p\ngoal\nwhen v is r", (3, 2)), ("for v of p\ngoal\nthen v is r", (3, 2))):
            wrong(self, HEAD + text, place[0] + 7, place[1])
        wrong(self, "game a\nfirst x\nuse", 3, 1)
        wrong(self, "game a\npart f\nuse", 3, 1)
        self.assertIsNone(error_of(game_of, HEAD + "for v of p\nfor w of p\ngoal\nwhen p is v\nuse t w v\nend\nend\nend"))
        self.assertIsNone(error_of(game_of, HEAD + "part f u v w\nuse t u w\nuse e\nend\npart t2 t\nuse f 1 t r\nend"))

    def test_texts_changed_by_chance(self):
        chance = rng(761)
        found = {}
        pool = KEYWORDS + ["p", "q", "size", "red", "b", "x", "y", "take", "take1", "r0", "r1", "new", "31", "-31", "0", "3", "-2", "01", "+1",
                           "A", "a_b", "x\ty", "abcdefghijklm", ";", "\x0b", "-"]
        for _ in range(9000):
            text = spaced(chance, some_text(chance, most_statements=4))
            for _ in range(chance.choice([0, 1, 1, 2])):
                text = bent(chance, text, pool)
            wanted = wrong_plainly(text)
            if wanted is None:
                self.assertTrue(game_of(game_text(game_of(text))) == game_of(text))
            else:
                raises(self, BadText(*wanted), game_of, text)
            found[wanted] = True
        self.assertGreater(len(found), 100)

    def test_texts_cut_everywhere(self):
        chance = rng(762)
        for text in [FULL, HEAD] + [some_text(chance) for _ in range(10)]:
            for at in range(len(text) + 1):
                wanted = wrong_plainly(text[:at])
                found = error_of(game_of, text[:at])
                self.assertEqual(None if found is None else (found.line, found.column), wanted)


def bent(chance, text, pool):
    lines = text.split("\n")
    at = chance.randrange(len(lines))
    words = lines[at].split(" ")
    where = chance.randrange(len(words))
    kind = chance.randrange(8)
    if kind == 0:
        words[where] = chance.choice(pool)
    elif kind == 1:
        words.insert(where, chance.choice(pool))
    elif kind == 2:
        del words[where]
    elif kind == 3:
        lines.insert(at, lines[chance.randrange(len(lines))])
    elif kind == 4:
        other = chance.randrange(len(lines))
        lines[at], lines[other] = lines[other], lines[at]
        return "\n".join(lines)
    elif kind == 5:
        return "\n".join(lines[:at] + lines[at + 1:])
    elif kind == 6:
        return text[:chance.randint(0, len(text))]
    else:
        words.append(chance.choice(pool))
    lines[at] = " ".join(words)
    return "\n".join(lines)


class Standings(unittest.TestCase):
    games = [game_of(text) for text in ("game a", "game a\npiece p is r b", "game a\npiece p is r b\npiece q from -1 to 3",
                                        "game a\npiece p is r\npiece q from 0 to 1\npiece s is b r c\npiece u from -30 to -29")]

    def test_in_order(self):
        self.assertEqual(standings(self.games[0]), (("first",), ("second",)))
        self.assertEqual(standings(self.games[1]), (("first", "r"), ("first", "b"), ("second", "r"), ("second", "b")))
        wanted = tuple((turn, "r", q, s, u) for turn in ("first", "second") for q in (0, 1) for s in ("b", "r", "c") for u in (-30, -29))
        self.assertEqual(standings(self.games[3]), wanted)
        for game, many in zip(self.games, (2, 4, 20, 24)):
            rows = standings(game)
            self.assertEqual((type(rows), len(rows), len(set(rows))), (tuple, many, many))
            for place, standing in enumerate(rows):
                self.assertIs(type(standing), tuple)
                self.assertEqual(place_of(game, standing), place)
                self.assertEqual(place_of(game, list(standing)), place)
                self.assertEqual(standing_at(game, place), standing)
            for place in NO_INTEGERS + (-1, many, FAR):
                raises(self, BadPlace(place), standing_at, game, place)

    def test_great_games(self):
        game = game_of("game a\n" + "\n".join(f"piece p{i} from {i} to {i + 11}" for i in range(4)))
        for place in (0, 1, 12 ** 4 - 1, 12 ** 4, 2 * 12 ** 4 - 1, 12345):
            self.assertEqual(place_of(game, standing_at(game, place)), place)
        self.assertEqual(len(standings(game)), 2 * 12 ** 4)
        raises(self, BadPlace(2 * 12 ** 4), standing_at, game, 2 * 12 ** 4)

    def test_what_is_no_standing(self):
        game = self.games[2]
        for value in (None, 5, "first", ("first",), ("first", "r"), ("first", "r", 0, 0), ("first", "c", 0), ("first", "r", 4), ("first", "r", "0"),
                      ("first", "r", True), ("first", "r", 1.0), ("first", "r", None), ("first", "r", [0]), ("first", 0, "r"), ("r", "first", 0),
                      (0, "r", 0), (True, "r", 0), ("third", "r", 0), {"first": 1}, iter(("first", "r", 0)), [["first"], "r", 0], (None,) * 3, ()):
            raises(self, BadRow(value), place_of, game, value)
            raises(self, BadRow(value), state_text, game, value, None)
        for value in ((), ("third",), ("first", "second"), "first", None):
            raises(self, BadRow(value), place_of, self.games[0], value)

    def test_states(self):
        for game in self.games:
            for standing in standings(game):
                for n in (0, -1, 7, 10 ** 60 - 1, -10 ** 60 + 1):
                    text = state_text(game, standing, n)
                    self.assertEqual(text, " ".join([str(value) for value in standing] + ["at", str(n)]))
                    self.assertEqual(state_text(game, list(standing), n), text)
                    told = state_of(game, text)
                    self.assertEqual(told, (standing, n))
                    self.assertTrue(type(told) is type(told[0]) is tuple)
                    self.assertEqual(state_of(game, "  " + text.replace(" ", "   ") + " "), (standing, n))
        self.assertEqual(state_text(self.games[0], ("second",), 10 ** 60), "second at 1" + "0" * 60)
        for n in NO_INTEGERS:
            raises(self, BadNumber("count", n), state_text, self.games[0], ("first",), n)

    def test_wrong_words(self):
        game = self.games[2]
        for text, column in (("", 1), ("  ", 1), ("r", 1), ("First", 1), ("\nfirst r 0 at 1", 1), ("first", 2), ("first c", 2), ("first 0", 2),
                             ("first r", 3), ("first r r", 3), ("first r 4", 3), ("first r 00", 3), ("first r +1", 3), ("first r -0", 3),
                             ("first r 0", 4), ("first r 0 1", 4), ("first r 0 At", 4), ("first r 0 at", 5), ("first r 0 at x", 5),
                             ("first r 0 at 01", 5), ("first r 0 at +1", 5), ("first r 0 at -0", 5), ("first r 0 at 1" + "0" * 60, 5),
                             ("first r 0 at -1" + "0" * 60, 5), ("first r 0 at 1.", 5), ("first r 0 at \u0661", 5), ("first r 0 at 1\n", 5),
                             ("first r 0 at 1 2", 6), ("first r 0 at 1 at", 6), ("first\tr 0 at 1", 1), ("second b -1 at 5 ;", 6)):
            raises(self, BadText(1, column), state_of, game, text)
        for text, column in (("at 1", 1), ("first 1", 2), ("second at", 3), ("first r at 1", 2), ("first at 1 1", 4)):
            raises(self, BadText(1, column), state_of, self.games[0], text)
        for value in NO_STRINGS:
            raises(self, BadText(0, 0), state_of, game, value)


class Names(unittest.TestCase):
    def test_names(self):
        for word in KEYWORDS:
            wrong(self, "game " + word, 1, 2)
        for word in ("a", "z9", "games", "ends", "abcdefghijkl", "a00000000000"):
            self.assertTrue(name_plainly(word))
            self.assertEqual(game_of("game " + word).name, word)
        for word in ("", "1", "A", "aB", "a_", "a-", "\u00e4", "a\u00e4", "abcdefghijklm", "\u0131", "a\u0661"):
            self.assertFalse(name_plainly(word))
            self.assertIsNotNone(error_of(game_of, "game " + word))


class Sizes(unittest.TestCase):
    def test_texts_of_4000_characters(self):
        texts = ["game a\n" + "goal\nend\n" * 124, "game a\npart f\nend\nfirst x\n" + "use f\n" * 240 + "end\n",
                 "game a\n" + "".join(f"for v from -30 to 30\nfor w from v to v\nfirst r{i}\nend\nend\nend\n" for i in range(41)),
                 "game a\nfirst x\n" + "when count rest 30 29\n" * 180 + "end\n"]
        begin = time.process_time()
        for text in texts:
            self.assertLessEqual(len(text), 4000)
            for _ in range(5):
                self.assertTrue(game_of(game_text(game_of(text))) == game_of(text))
            self.assertEqual(error_of(game_of, text + "x").column, 1)
        self.assertLess(time.process_time() - begin, 10)


if __name__ == "__main__":
    unittest.main()
