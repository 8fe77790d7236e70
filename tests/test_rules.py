"""The rules of the language that can be seen by a simple look at the files of the package."""

import ast
import importlib
import os
import re
import unittest

PACKAGE = os.path.join(os.path.dirname(os.path.dirname(os.path.abspath(__file__))), "anylead")
LIBRARY = {"heapq": {"heappush", "heappop", "heapify", "heapreplace", "heappushpop"},
           "math": {"gcd", "lcm", "isqrt", "comb", "perm", "factorial"},
           "itertools": {"product", "combinations", "permutations"}}
BUILTINS = set("""len range enumerate zip min max sum abs sorted reversed int str bool list tuple dict set isinstance ord
repr any all divmod map iter next ValueError TypeError NotImplemented True False None""".split())
BARRED = set("""type typing typing_extensions enum Enum IntEnum StrEnum Flag IntFlag Generic Protocol ABC ABCMeta namedtuple
NamedTuple TypedDict TYPE_CHECKING abstractmethod register mro elements open input law eval exec compile globals locals vars
getattr setattr delattr super float chr""".split())
# Most of these are allowed in some form; the package does without them.
KINDS = (ast.Global, ast.AsyncFunctionDef, ast.Lambda, ast.Yield, ast.YieldFrom, ast.GeneratorExp, ast.AnnAssign,
         ast.Import, ast.With, ast.Delete, ast.NamedExpr, ast.Match)
INTERFACE = {
    "errors": "LeadError BadNumber BadBook BadPlace BadRow BadText BadName NoName TakenName NoMove Unlike TooMany NotKept "
              "BadPromise NothingToUndo NothingToRedo",
    "books": "Move Goal Book holds open_moves is_goal after mirrored lifted beside numbered without",
    "forcing": "forces is_stuck",
    "rounds": "Rounds none all_counts just at_least at_most between every listed",
    "roundsums": "sums shifts",
    "roundtexts": "rounds_text read_rounds",
    "bounded": "least_turns table_of Window sandwich",
    "boards": "Spot Board board_of",
    "alike": "likeness is_alike classes least_book Difference differences shows_unlike",
    "plays": "Play is_play play_text read_play",
    "players": "open_counts goal_counts answer next_state Outcome course state_behind",
    "tables": "step forced flipped ranks_of",
    "winners": "Winners winners winners_at wins",
    "papers": "Ranks Paper paper is_paper told_winners is_outside is_closed_step",
    "plans": "Standing Straight Lead Watch plan played",
    "again": "again_forced again_winners again_at",
    "questions": "good_at slips_at lone_at never_good Lasting lasting shares apart behind handicap squeezed changed needless",
    "games": "game_of Game game_text standings place_of standing_at state_text state_of",
    "meaning": "moves_from is_goal_at counted instances",
    "gamebooks": "book_of never_open renamed",
    "desk": "Desk",
    "journal": "mended replayed sum_of",
}
METHODS = {
    ("rounds", "Rounds"): "__init__ __eq__ __contains__ __bool__ __and__ __or__ __xor__ __sub__ __invert__ __neg__ __str__ "
                          "least greatest after before nearest many members ith within apart moved spread pulled",
    ("bounded", "Window"): "__init__ turns wins best best_line",
    ("books", "Move"): "__init__ __eq__",
    ("books", "Goal"): "__init__ __eq__",
    ("books", "Book"): "__init__ __eq__",
    ("boards", "Spot"): "__init__ __eq__",
    ("boards", "Board"): "__init__ __eq__ spot at home",
    ("alike", "Difference"): "__init__ __eq__",
    ("plays", "Play"): "__init__ __eq__ go back since",
    ("players", "Outcome"): "__init__ __eq__",
    ("winners", "Winners"): "__init__ __eq__ on wins at",
    ("papers", "Ranks"): "__init__",
    ("papers", "Paper"): "__init__",
    ("plans", "Standing"): "__init__ __eq__",
    ("plans", "Straight"): "__init__",
    ("plans", "Lead"): "__init__ begin answer told left enough straight",
    ("plans", "Watch"): "__init__ begin answer told player",
    ("questions", "Lasting"): "__init__",
    ("games", "Game"): "__init__ __eq__",
    ("desk", "Desk"): "__init__ put edit rename drop keep release undo redo attempt trial names promises text game winners asked broken "
                      "journal settled",
}
# The arguments of each function and class of the interface, in their order.
ARGUMENTS = {
    "plans": {"Standing": 3, "Straight": 6, "Lead": 2, "Watch": 2, "plan": 2, "played": 4},
    "again": {"again_forced": 3, "again_winners": 1, "again_at": 2},
    "questions": {"good_at": 2, "slips_at": 2, "lone_at": 2, "never_good": 1, "Lasting": 2, "lasting": 2, "shares": 2, "apart": 4,
                  "behind": 4, "handicap": 4, "squeezed": 3, "changed": 2, "needless": 1},
    "games": {"game_of": 1, "Game": 3, "game_text": 1, "standings": 1, "place_of": 2, "standing_at": 2, "state_text": 3, "state_of": 2},
    "meaning": {"moves_from": 3, "is_goal_at": 3, "counted": 1, "instances": 1},
    "gamebooks": {"book_of": 1, "never_open": 1, "renamed": 4},
    "desk": {"Desk": 0},
    "journal": {"mended": 1, "replayed": 1, "sum_of": 2},
}


def files():
    return sorted(name for name in os.listdir(PACKAGE) if name != "__pycache__")


def text_of(name):
    with open(os.path.join(PACKAGE, name), encoding="utf-8", newline="") as file:
        return file.read()


class Rules(unittest.TestCase):
    def setUp(self):
        self.trees = {name: ast.parse(text_of(name)) for name in files()}

    def nodes(self):
        for name, tree in self.trees.items():
            for node in ast.walk(tree):
                yield name, node

    def test_files(self):
        self.assertIn("__init__.py", files())
        for name in files():
            self.assertRegex(name, r"^[a-z0-9_]+\.py$")

    def test_sizes_and_characters(self):
        for name in files():
            text = text_of(name)
            self.assertLessEqual(len(text.splitlines()), 399, name)
            for line in text.split("\n"):
                self.assertLessEqual(len(line), 120, (name, line))
                self.assertTrue(all(" " <= sign <= "~" for sign in line), (name, line))
        for name, node in self.nodes():
            if isinstance(node, ast.FunctionDef):
                self.assertLessEqual(node.end_lineno - node.lineno + 1, 40, (name, node.name))

    def test_kinds_of_statements(self):
        for name, node in self.nodes():
            self.assertNotIsInstance(node, KINDS, (name, getattr(node, "lineno", 0)))
            self.assertNotIsInstance(getattr(node, "op", None), ast.Div, name)
            self.assertFalse(isinstance(node, ast.Constant) and isinstance(node.value, (float, complex)), name)
            if isinstance(node, (ast.FunctionDef, ast.ClassDef)):
                self.assertEqual(node.decorator_list, [], name)
            if isinstance(node, ast.Constant) and isinstance(node.value, str):
                self.assertNotIn("%", node.value, name)

    def test_imports(self):
        for name, node in self.nodes():
            if not isinstance(node, ast.ImportFrom):
                continue
            self.assertEqual(node.level, 0, name)
            words = [alias.name for alias in node.names]
            self.assertTrue(all(alias.asname is None for alias in node.names), name)
            if node.module in LIBRARY:
                self.assertLessEqual(set(words), LIBRARY[node.module], name)
                continue
            self.assertTrue(node.module.startswith("anylead."), (name, node.module))
            defined = [each.name for each in self.trees[node.module[8:] + ".py"].body
                       if isinstance(each, (ast.FunctionDef, ast.ClassDef))]
            defined += [target.id for each in self.trees[node.module[8:] + ".py"].body if isinstance(each, ast.Assign)
                        for target in each.targets]
            self.assertLessEqual(set(words), set(defined), (name, node.module))

    def test_no_two_files_import_from_each_other(self):
        needs = {name[:-3]: [node.module[8:] for node in ast.walk(tree)
                             if isinstance(node, ast.ImportFrom) and node.module.startswith("anylead.")]
                 for name, tree in self.trees.items()}
        done = []
        while len(done) < len(needs):
            ready = [name for name in needs if name not in done and all(need in done for need in needs[name])]
            self.assertTrue(ready, needs)
            done += ready

    def test_module_level(self):
        for name, tree in self.trees.items():
            bound = []
            for node in tree.body:
                self.assertIsInstance(node, (ast.Expr, ast.ImportFrom, ast.FunctionDef, ast.ClassDef, ast.Assign), name)
                if isinstance(node, ast.Assign):
                    ast.literal_eval(node.value)
                    bound += [target.id for target in node.targets]
                elif isinstance(node, ast.ImportFrom):
                    bound += [alias.name for alias in node.names]
                elif not isinstance(node, ast.Expr):
                    bound.append(node.name)
            self.assertEqual(len(bound), len(set(bound)), name)
            self.locals_are_new(name, tree, bound)

    def locals_are_new(self, name, tree, bound):
        import builtins
        for node in ast.walk(tree):
            if isinstance(node, ast.arg):
                self.assertNotIn(node.arg, bound, name)
                self.assertFalse(hasattr(builtins, node.arg), (name, node.arg))
            if isinstance(node, ast.Name) and isinstance(node.ctx, ast.Store):
                self.assertFalse(hasattr(builtins, node.id), (name, node.id))
                if node.id in bound:
                    self.assertIn(node.id.upper(), node.id, (name, node.id))

    def test_builtins(self):
        import builtins
        for name, node in self.nodes():
            if isinstance(node, ast.Name) and hasattr(builtins, node.id):
                self.assertIn(node.id, BUILTINS, name)

    def test_barred_words(self):
        for name in files():
            text = re.sub(r'""".*?"""|#[^\n]*', "", text_of(name), flags=re.DOTALL)
            for word in re.findall(r"[A-Za-z_]+", text):
                self.assertNotIn(word, BARRED, name)
                self.assertFalse(word.startswith(("_wall", "_pe_", "_law_", "_lay_", "_stub_", "_sre", "_enum_")), name)
                self.assertNotIn(word, ("_cold", "_outside", "_record", "_tuplegetter", "_written_out", "_member_names"))

    def test_names_that_begin_with_two_underscores(self):
        allowed = {word for words in METHODS.values() for word in words.split() if word.startswith("__")}
        for name in files():
            for word in re.findall(r"__\w+", text_of(name)):
                self.assertIn(word, allowed, name)

    def test_the_interface_is_defined_where_it_is_listed(self):
        for module, words in INTERFACE.items():
            defined = {node.name for node in self.trees[module + ".py"].body
                       if isinstance(node, (ast.FunctionDef, ast.ClassDef))}
            self.assertLessEqual(set(words.split()), defined, module)
            for word in words.split():
                self.assertTrue(hasattr(importlib.import_module("anylead." + module), word))

    def test_arguments(self):
        import inspect
        for module, words in ARGUMENTS.items():
            for word, many in words.items():
                told = inspect.signature(getattr(importlib.import_module("anylead." + module), word))
                self.assertEqual(len(told.parameters), many, word)

    def test_errors_that_are_caught(self):
        for name, node in self.nodes():
            if isinstance(node, ast.ExceptHandler):
                self.assertIn(node.type.id, INTERFACE["errors"].split(), name)
            if isinstance(node, ast.Try):
                # A finally only gives back what stood there.
                for each in node.finalbody:
                    each = each.body[0] if isinstance(each, ast.If) else each
                    self.assertEqual(ast.unparse(each), "self.stages = stages", name)

    def test_no_attribute_has_the_name_of_a_new_method(self):
        stored = {node.attr for _, node in self.nodes() if isinstance(node, ast.Attribute) and isinstance(node.ctx, ast.Store)}
        defined = {each.name for _, node in self.nodes() if isinstance(node, ast.ClassDef) for each in node.body
                   if isinstance(each, ast.FunctionDef)}
        self.assertLessEqual(stored & defined, {"many"})
        self.assertFalse(stored & {"items", "keys", "values", "pop", "update", "append", "clear", "extend", "insert", "remove", "reverse",
                                   "setdefault", "sort", "args", "encode", "decode", "hex", "fromhex", "format"})

    def test_methods_are_defined_in_the_class_itself(self):
        for (module, kind), words in METHODS.items():
            found = [node for node in self.trees[module + ".py"].body if isinstance(node, ast.ClassDef) and node.name == kind]
            self.assertEqual(len(found), 1)
            defined = [node.name for node in found[0].body if isinstance(node, ast.FunctionDef)]
            self.assertLessEqual(set(words.split()), set(defined), kind)
            self.assertEqual(len(defined), len(set(defined)), kind)


if __name__ == "__main__":
    unittest.main()
