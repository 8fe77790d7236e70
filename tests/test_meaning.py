"""[79] to [82]: what a game means."""

import time
import unittest

from anylead.errors import BadNumber, BadRow, TooMany
from anylead.games import game_of, standings
from anylead.meaning import counted, instances, is_goal_at, moves_from
from gamehelpers import done_plainly, goal_at_plainly, instances_plainly, moves_plainly, some_game
from helpers import FAR, NO_INTEGERS, error_of, raises, rng

COUNTS = list(range(-6, 9)) + [FAR, FAR + 1, -FAR, -FAR - 1]
PIECES = "piece hue is red blue\npiece size from -1 to 2\npiece bulk from 2 to 2\n"
OTHERS = "piece hue is red blue\npiece size from -1 to 1\npiece bulk from 2 to 3\n"


def small(chance):
    """Games that can be looked through."""
    while True:
        game = some_game(chance)
        places, many, lines = counted(game)
        if places <= 24 and many <= 60 and lines <= 400:
            return game


def lines_game(*lines, pieces=PIECES, parts=""):
    return game_of("game a\n" + pieces + parts + "".join(f"{side} {side[0]}\n" + "\n".join(lines) + "\nend\n" for side in ("first", "second")))


class Lines(unittest.TestCase):
    def told(self, standing, n, *lines, **more):
        """The state to which the only rule leads; None if a line fails."""
        moves = moves_from(lines_game(*lines, **more), standing, n)
        self.assertIn(len(moves), (0, 1))
        if not moves:
            return None
        self.assertEqual(moves[0][:2], (standing[0][0], ()))
        return moves[0][2] + (moves[0][3],)

    def goes(self, wanted, *lines, at=("first", "red", 1, 2), n=5):
        told = self.told(at, n, *lines)
        self.assertEqual(told, ("second" if at[0] == "first" else "first",) + at[1:] + (n,) if wanted else None, lines)

    def test_no_lines(self):
        self.assertEqual(self.told(("first", "red", 0, 2), 7), ("second", "red", 0, 2, 7))
        self.assertEqual(self.told(("second", "red", 0, 2), 7), ("first", "red", 0, 2, 7))

    def test_asking_pieces(self):
        for line, wanted in (("hue is red", True), ("hue is blue", False), ("hue not red", False), ("hue not blue", True), ("hue is 1", False),
                             ("hue not 1", True), ("hue is first", False), ("hue is size", False), ("hue not size", True), ("hue is hue", True),
                             ("hue not hue", False), ("hue above red", False), ("hue below red", False), ("hue above blue", False),
                             ("hue above 0", False), ("hue below 9", False), ("size is 1", True), ("size is 2", False), ("size not 1", False),
                             ("size not 2", True), ("size not red", True), ("size is red", False), ("size above 0", True), ("size above 1", False),
                             ("size below 2", True), ("size below 1", False), ("size above -30", True), ("size above red", False),
                             ("size below red", False), ("size below bulk", True), ("bulk below size", False), ("bulk above size", True),
                             ("bulk is size", False), ("size is 30", False), ("turn is first", True), ("turn is second", False),
                             ("turn not first", False), ("turn not second", True), ("turn is red", False), ("turn not 3", True),
                             ("turn above first", False), ("turn below 5", False), ("turn is hue", False), ("turn not hue", True),
                             ("bulk is 2", True), ("bulk not 3", True)):
            self.goes(wanted, "when " + line)
        self.goes(False, "when turn is first", at=("second", "red", 1, 2))
        self.goes(True, "when turn is second", at=("second", "red", 1, 2))
        self.goes(True, "when bulk is size", at=("first", "red", 2, 2))
        self.goes(False, "when bulk above size", at=("first", "red", 2, 2))

    def test_the_turn_ahead_of_all_lines(self):
        self.assertEqual(self.told(("first", "red", 1, 2), 0, "then again", "when turn is first"), ("first", "red", 1, 2, 0))
        self.assertIsNone(self.told(("first", "red", 1, 2), 0, "then again", "when turn is second"))
        self.assertIsNone(self.told(("first", "red", 1, 2), 0, "when turn is second"))
        self.assertEqual(self.told(("second", "red", 1, 2), 0, "then again", "then again", "when turn is second"), ("second", "red", 1, 2, 0))

    def test_asking_the_count(self):
        for line, wanted in (("least 5", True), ("least 6", False), ("most 5", True), ("most 4", False), ("is 5", True), ("is 4", False),
                             ("not 5", False), ("not 4", True), ("least red", False), ("most red", False), ("is red", False), ("not red", False),
                             ("not first", False), ("least first", False), ("least hue", False), ("not hue", False), ("least size", True),
                             ("most size", False), ("is bulk", False), ("not bulk", True), ("rest 3 2", True), ("rest 3 1", False),
                             ("rest 3 -1", True), ("rest 3 -30", False), ("rest 3 5", True), ("rest 3 29", True), ("rest 1 0", True),
                             ("rest 1 17", True), ("rest 0 5", False), ("rest 0 0", False), ("rest -3 2", False), ("rest red 2", False),
                             ("rest 3 red", False), ("rest red red", False), ("rest bulk 1", True), ("rest bulk size", True), ("rest size 0", True),
                             ("rest 3 bulk", True), ("rest first 0", False), ("rest 2 second", False), ("rest 30 5", True)):
            self.goes(wanted, "when count " + line)
        self.goes(False, "when count rest size 0", at=("first", "red", 0, 2))
        self.goes(False, "when count rest size 0", at=("first", "red", -1, 2))
        for n in (FAR, -FAR):
            self.goes(n % 30 == 7, "when count rest 30 7", n=n)
            self.goes(n > 0, "when count least 30", n=n)
            self.goes(n < 0, "when count most -30", n=n)

    def test_changing_pieces(self):
        at = ("first", "red", 1, 2)
        for line, wanted in (("hue is blue", ("blue", 1, 2)), ("hue is red", ("red", 1, 2)), ("hue is 1", None), ("hue is first", None),
                             ("hue is size", None), ("hue is hue", ("red", 1, 2)), ("hue more 0", None), ("hue less 1", None), ("hue more red", None),
                             ("size is 2", ("red", 2, 2)), ("size is -1", ("red", -1, 2)), ("size is 3", None), ("size is -2", None),
                             ("size is red", None), ("size is bulk", ("red", 2, 2)), ("bulk is size", None), ("size more 1", ("red", 2, 2)),
                             ("size more 2", None), ("size less 2", ("red", -1, 2)), ("size less 3", None), ("size more -2", ("red", -1, 2)),
                             ("size less -1", ("red", 2, 2)), ("size more size", ("red", 2, 2)), ("size less size", ("red", 0, 2)),
                             ("size less bulk", ("red", -1, 2)), ("size more bulk", None), ("bulk more size", None), ("size more hue", None),
                             ("size less red", None), ("size more first", None), ("bulk less 0", ("red", 1, 2)), ("bulk less 1", None)):
            told = self.told(at, 4, "then " + line)
            self.assertEqual(told, None if wanted is None else ("second",) + wanted + (4,), line)

    def test_values_that_have_changed(self):
        at = ("first", "red", 1, 2)
        self.assertEqual(self.told(at, 5, "then bulk more size", pieces=OTHERS), ("second", "red", 1, 3, 5))
        self.assertEqual(self.told(at, 5, "then bulk is 3", "when count rest bulk 2", pieces=OTHERS), ("second", "red", 1, 3, 5))
        self.assertIsNone(self.told(at, 6, "then bulk is 3", "when count rest bulk 2", pieces=OTHERS))
        self.assertIsNone(self.told(at, 5, "when count rest bulk 2", "then bulk is 3", pieces=OTHERS))

    def test_changing_the_count(self):
        for line, wanted in (("more 3", 7), ("less 3", 1), ("more -3", 1), ("less -30", 34), ("more 0", 4), ("more size", 5), ("less bulk", 2),
                             ("more hue", None), ("less red", None), ("more first", None), ("less second", None)):
            told = self.told(("first", "red", 1, 2), 4, "then count " + line)
            self.assertEqual(told, None if wanted is None else ("second", "red", 1, 2, wanted), line)
        self.assertEqual(self.told(("first", "red", 1, 2), FAR, "then count more 30")[-1], FAR + 30)

    def test_lines_one_behind_the_other(self):
        at = ("first", "red", 1, 2)
        for lines, wanted in ((("then count less 2", "when count least 3"), ("second", "red", 1, 2, 3)),
                              (("then count less 2", "when count least 4"), None), (("then count more 2", "when count rest 7 0"), ("second", "red", 1, 2, 7)),
                              (("then size more 1", "when size is 2", "then count more size"), ("second", "red", 2, 2, 7)),
                              (("then size more 1", "then size more 1"), None), (("then size more 2", "then size less 1"), None),
                              (("then hue is blue", "when hue is blue", "then again"), ("first", "blue", 1, 2, 5)),
                              (("then hue is blue", "when hue is red"), None), (("then bulk is 3",), None),
                              (("then count more 1", "then count more 1", "when count is 7", "then count less 9"), ("second", "red", 1, 2, -2)),
                              (("then size less 1", "then count more size"), ("second", "red", 0, 2, 5))):
            self.assertEqual(self.told(at, 5, *lines), wanted, lines)


class Parts(unittest.TestCase):
    def told(self, parts, *lines, at=("first", "red", 1, 2), n=5):
        moves = moves_from(lines_game(*lines, parts=parts), at, n)
        return moves[0][2] + (moves[0][3],) if moves else None

    def test_changes_stay(self):
        parts = "part grow\nthen size more 1\nthen count more 10\nthen again\nend\n"
        self.assertEqual(self.told(parts, "use grow", "when size is 2", "when count is 15"), ("first", "red", 2, 2, 15))
        self.assertIsNone(self.told(parts, "use grow", "use grow"))
        self.assertIsNone(self.told("part none\nwhen hue is blue\nend\n", "then again", "use none"))

    def test_params_are_names_of_pieces(self):
        parts = "part twice x\nthen count more x\nthen size less 1\nthen count more x\nend\n"
        self.assertEqual(self.told(parts, "use twice size"), ("second", "red", 0, 2, 6))
        self.assertEqual(self.told(parts, "use twice 4"), ("second", "red", 0, 2, 13))
        self.assertEqual(self.told(parts, "use twice bulk"), ("second", "red", 0, 2, 9))
        self.assertIsNone(self.told(parts, "use twice hue"))
        self.assertIsNone(self.told(parts, "use twice red"))

    def test_params_are_replaced_all_at_once(self):
        parts = "part one x y\nthen count more x\nthen count more x\nthen count less y\nend\npart two y x\nuse one y x\nend\npart three x y\nuse one y x\nend\n"
        self.assertEqual(self.told(parts, "use one 10 1"), ("second", "red", 1, 2, 24))
        self.assertEqual(self.told(parts, "use two 10 1"), ("second", "red", 1, 2, 24))
        self.assertEqual(self.told(parts, "use three 10 1"), ("second", "red", 1, 2, -3))
        self.assertEqual(self.told(parts, "use three size bulk"), ("second", "red", 1, 2, 8))

    def test_params_and_variables_that_look_alike(self):
        text = ("game a\npart f x y\nthen count more x\nthen count less y\nend\nfor y from 1 to 2\nfor x from 10 to 11\nfirst f\nuse f y x\nend\nend\nend\n")
        game = game_of(text)
        self.assertEqual(moves_from(game, ("first",), 100), tuple(("f", (y, x), ("second",), 100 + y - x) for y in (1, 2) for x in (10, 11)))
        self.assertEqual(instances(game)[1], ("first", "f", (1, 11), (("then", "count", "more", 1), ("then", "count", "less", 11))))


class Families(unittest.TestCase):
    def choices(self, *lines, pieces=OTHERS):
        return [row[2] for row in instances(game_of("game a\n" + pieces + "\n".join(lines)))]

    def test_values_in_their_order(self):
        rule = ["first r", "end", "end"]
        self.assertEqual(self.choices("for v of hue", *rule), [("red",), ("blue",)])
        self.assertEqual(self.choices("for v of size", *rule), [(-1,), (0,), (1,)])
        self.assertEqual(self.choices("for v from -1 to 1", *rule), [(-1,), (0,), (1,)])
        self.assertEqual(self.choices("for v from 3 to 3", *rule), [(3,)])
        self.assertEqual(self.choices("for v from 3 to 2", *rule), [])
        self.assertEqual(self.choices("for v of hue", "for w from 1 to 2", *rule, "end"), [("red", 1), ("red", 2), ("blue", 1), ("blue", 2)])
        self.assertEqual(self.choices("for v from 1 to 3", "for w from v to 2", *rule, "end"), [(1, 1), (1, 2), (2, 2)])
        self.assertEqual(self.choices("for v of bulk", "for w from 0 to v", *rule, "end"), [(2, 0), (2, 1), (2, 2), (3, 0), (3, 1), (3, 2), (3, 3)])
        self.assertEqual(self.choices("for v of hue", "for w from v to 3", *rule, "end"), [])
        self.assertEqual(self.choices("for v of hue", "for w from 0 to v", *rule, "end"), [])
        self.assertEqual(self.choices("for v of size", "for v2 from v to v", *rule, "end"), [(n, n) for n in (-1, 0, 1)])
        self.assertEqual(self.choices("for v of bulk", "goal", "end", *rule), [(2,), (2,), (3,), (3,)])
        self.assertEqual(self.choices("for v of bulk", "end"), [])

    def test_the_order_of_instances(self):
        text = ("game a\n" + OTHERS + "goal\nend\nfor v of bulk\nsecond one\nend\nfor w from 0 to 1\nfirst two\nend\ngoal\nend\nend\n"
                "first three\nend\nend\nfirst four\nend\n")
        told = [row[:3] for row in instances(game_of(text))]
        wanted = [("goal", None, ())]
        for v in (2, 3):
            wanted.append(("second", "one", (v,)))
            for w in (0, 1):
                wanted += [("first", "two", (v, w)), ("goal", None, (v, w))]
            wanted.append(("first", "three", (v,)))
        self.assertEqual(told, wanted + [("first", "four", ())])

    def test_moves_in_the_order_of_instances(self):
        text = "game a\nfor v from 1 to 3\nfirst one\nthen count less v\nend\nfirst two\nend\nend\nfirst three\nend\n"
        self.assertEqual([row[:2] + row[3:] for row in moves_from(game_of(text), ("first",), 0)],
                         [("one", (1,), -1), ("two", (1,), 0), ("one", (2,), -2), ("two", (2,), 0), ("one", (3,), -3), ("two", (3,), 0),
                          ("three", (), 0)])
        self.assertEqual(moves_from(game_of(text), ("second",), 0), ())


class ByChance(unittest.TestCase):
    def test_moves_and_goals_at_all_standings(self):
        chance = rng(791)
        found = {"moves": 0, "several": 0, "goals": 0, "none": 0}
        for _ in range(1200):
            game = small(chance)
            for standing in standings(game):
                for n in chance.sample(COUNTS, 5):
                    told = moves_from(game, chance.choice([tuple, list])(standing), n)
                    self.assertEqual(told, moves_plainly(game, standing, n))
                    self.assertTrue(all(type(row) is tuple and type(row[1]) is type(row[2]) is tuple for row in told))
                    goal = is_goal_at(game, standing, n)
                    self.assertIs(goal, goal_at_plainly(game, standing, n))
                    found["moves"] += len(told)
                    found["several"] += len(told) > 1
                    found["goals"] += goal
                    found["none"] += not told
        self.assertGreater(min(found.values()), 500, found)

    def test_instances_mean_what_they_stand_for(self):
        chance = rng(801)
        for _ in range(1200):
            game = small(chance)
            rows = instances(game)
            plain = instances_plainly(game)
            self.assertEqual([row[:3] for row in rows], [(sort, name, tuple(value for _, value in known)) for sort, name, known, _ in plain])
            known_words = {name for name, _ in game.pieces} | {value for _, values in game.pieces for value in values} | {"first", "second"}
            for (_, _, _, lines), (_, _, known, own) in zip(rows, plain):
                self.assertTrue(type(lines) is tuple and all(type(line) is tuple and line[0] in ("when", "then") for line in lines))
                for line in lines:
                    self.assertTrue(all(type(value) is int or value in known_words for value in line[3:]))
                for standing in chance.sample(standings(game), 2):
                    n = chance.choice(COUNTS)
                    self.assertEqual(done_plainly(game, lines, [], standing, n), done_plainly(game, own, known, standing, n))
            self.assertEqual(counted(game), (len(standings(game)), len(rows), sum(len(row[3]) for row in rows)))


def doubling(depth, lines=1, rule="first x\nuse p{}\nend\n"):
    text = "part p0\n" + "then again\n" * lines + "end\n"
    for at in range(1, depth + 1):
        text += f"part p{at}\nuse p{at - 1}\nuse p{at - 1}\nend\n"
    return "game a\n" + text + rule.format(depth)


class Sizes(unittest.TestCase):
    def test_counted_of_games_far_too_great(self):
        begin = time.process_time()
        self.assertEqual(counted(game_of(doubling(30))), (2, 1, 2 ** 30))
        self.assertEqual(counted(game_of(doubling(30, 3, "for v from 1 to 7\nfirst x\nuse p{0}\nuse p{0}\nthen again\nend\nend\n"))),
                         (2, 7, 7 * (6 * 2 ** 30 + 1)))
        self.assertEqual(counted(game_of(doubling(60, 2, "goal\nuse p60\nend\n"))), (2, 1, 2 ** 61))
        self.assertEqual(counted(game_of(doubling(30, 1, ""))), (2, 0, 0))
        pieces = "".join(f"piece p{i} from 1 to 12\n" for i in range(4))
        self.assertEqual(counted(game_of("game a\n" + pieces)), (2 * 12 ** 4, 0, 0))
        wide = "for v from -30 to 30\nfor w from -30 to 30\n" + "goal\nthen again\nend\n" * 30 + "end\nend\n"
        self.assertEqual(counted(game_of("game a\n" + wide * 4)), (2, 61 * 61 * 120, 61 * 61 * 120))
        stairs = "for v from -30 to 30\n" + "for w from v to 30\ngoal\nend\nend\n" * 50 + "end\n"
        self.assertEqual(counted(game_of("game a\n" + stairs)), (2, 50 * 61 * 62 // 2, 0))
        self.assertEqual(counted(game_of("game a\npiece p is b c\n" + stairs.replace("from -30 to 30\nfor", "of p\nfor", 1))), (4, 0, 0))
        self.assertLess(time.process_time() - begin, 5)

    def test_empty_parts_far_too_often(self):
        begin = time.process_time()
        game = game_of(doubling(60, 0))
        self.assertEqual(counted(game), (2, 1, 0))
        self.assertEqual(instances(game), (("first", "x", (), ()),))
        self.assertEqual(moves_from(game, ("first",), 3), (("x", (), ("second",), 3),))
        game = game_of(doubling(50, 1, "for v from 2 to 1\nfirst x\nuse p50\nend\nend\nfirst y\nuse p1\nend\n"))
        self.assertEqual(instances(game), (("first", "y", (), (("then", "again"),) * 2),))
        self.assertLess(time.process_time() - begin, 5)

    def test_limits_just_met_and_passed(self):
        def text(places, many, lines):
            pieces = f"piece p from 1 to {places // 4}\npiece q is b c\n"
            return "game a\n" + pieces + f"for v from 1 to {many}\ngoal\nend\nend\n" + "goal\n" + "when p is 1\n" * lines + "end\n"
        calls = (lambda game: moves_from(game, ("first", 1, "b"), 0), lambda game: is_goal_at(game, ("first", 1, "b"), 0), instances)
        for places, many, lines, wanted in ((24, 29, 0, None), (24, 29, 100, None), (28, 29, 0, ("places", 24))):
            game = game_of(text(places, many, lines))
            for call in calls:
                found = error_of(call, game)
                self.assertEqual(None if found is None else (found.what, found.limit), wanted)
        met = "game a\npiece p from 1 to 12\n" + "".join(f"for v from 1 to 30\ngoal\n{body}end\nend\n" for body in ("", "when p is v\n" * 13))
        ten = "part ten\n" + "then again\n" * 10 + "end\n"
        for extra, wanted in (("", None), (ten, None), ("goal\nend\n", TooMany("instances", 60)), ("goal\n" + "then again\n" * 90 + "end\n",
                                                                                              TooMany("instances", 60))):
            game = game_of(met + extra)
            self.assertEqual(counted(game)[:2], (24, 60 + (extra[:4] == "goal")))
            for call in (lambda game: moves_from(game, ("first", 1), 0), lambda game: is_goal_at(game, ("first", 1), 0), instances):
                if wanted is None:
                    self.assertIsNone(error_of(call, game))
                else:
                    raises(self, wanted, call, game)
        for lines, wanted in ((400, None), (401, TooMany("lines", 400))):
            game = game_of("game a\n" + ten + "part all\n" + "use ten\n" * 39 + "end\nfirst x\nuse all\n" + "then again\n" * (lines - 390) + "end\n")
            self.assertEqual(counted(game), (2, 1, lines))
            self.assertEqual(type(error_of(instances, game)), type(wanted))
            if wanted:
                raises(self, wanted, instances, game)
            else:
                self.assertEqual(instances(game)[0][3], (("then", "again"),) * 400)

    def test_parts_of_just_400_lines(self):
        game = game_of("game a\npart twenty\n" + "then again\n" * 20 + "end\npart all\n" + "use twenty\n" * 20 + "end\nfirst x\nuse all\nend\n")
        self.assertEqual(instances(game), (("first", "x", (), (("then", "again"),) * 400),))

    def test_errors_in_their_order(self):
        great = game_of("game a\npiece p from 1 to 12\npiece q is b c\n" + "for v from 1 to 30\ngoal\n" + "then again\n" * 20 + "end\nend\n" * 1
                        + "for v from 0 to 30\ngoal\nend\nend\n")
        for call in (moves_from, is_goal_at):
            raises(self, TooMany("places", 24), call, great, None, None)
        many = game_of("game a\nfor v from 1 to 30\ngoal\n" + "then again\n" * 20 + "end\ngoal\nend\ngoal\nend\nend\n")
        long = game_of("game a\nfor v from 1 to 30\ngoal\n" + "then again\n" * 20 + "end\nend\n")
        fine = game_of("game a\npiece p is b c\nfirst x\nend\n")
        for call in (moves_from, is_goal_at):
            raises(self, TooMany("instances", 60), call, many, None, None)
            raises(self, TooMany("lines", 400), call, long, None, None)
            for value in (None, ("first",), ("first", "x"), ("b", "first"), ["first", "b", 1], "first b", (0, "b")):
                raises(self, BadRow(value), call, fine, value, None)
            for n in NO_INTEGERS:
                raises(self, BadNumber("count", n), call, fine, ("first", "b"), n)
        raises(self, TooMany("places", 24), instances, great)
        raises(self, TooMany("instances", 60), instances, many)
        raises(self, TooMany("lines", 400), instances, long)

    def test_games_of_the_greatest_size(self):
        game = game_of("game a\npiece p from 1 to 12\nfor v from 1 to 30\nfirst x\n" + "when p not v\n" * 6 + "then count more v\nend\nsecond y\n"
                       + "then count less v\n" * 6 + "end\nend\n")
        self.assertEqual(counted(game), (24, 60, 390))
        begin = time.process_time()
        for standing in standings(game):
            for n in (0, FAR):
                self.assertEqual(moves_from(game, standing, n), moves_plainly(game, standing, n))
        self.assertLess(time.process_time() - begin, 10)


if __name__ == "__main__":
    unittest.main()
