"""The parts of the language rules that the code itself shows, and where the interface is defined."""

import ast
import builtins
import pathlib
import unittest

FOLDER = pathlib.Path(__file__).resolve().parent.parent / "whoevermay"
FILES = sorted(FOLDER.glob("**/*.py"))

LIBRARY = {"itertools": {"combinations"}}
BUILTINS = set("""len range enumerate zip min max sum abs sorted reversed int str bool list tuple dict set isinstance ord
repr any all divmod Exception ValueError TypeError KeyError IndexError LookupError super property""".split())
METHODS = set("""append clear copy count endswith extend find get index insert isalnum isalpha isdigit islower isspace
isupper items join keys ljust lower lstrip partition pop remove replace reverse rfind rjust rpartition rsplit rstrip
setdefault split splitlines startswith strip update upper values zfill bit_length add discard sort""".split())
BARRED = (ast.Lambda, ast.AsyncFunctionDef, ast.Global, ast.Nonlocal, ast.Yield, ast.YieldFrom, ast.Await, ast.AnnAssign,
          ast.Div, ast.With, ast.Import, ast.Set)
DOUBLE = {"__init__", "__eq__", "__repr__", "__str__", "__len__"}
WORDS = set("""type typing enum dataclass namedtuple abstractmethod register mro elements open input law exec eval
globals locals vars id exit""".split())

# For each file its functions and, for each of its classes, the methods and properties in the body.
INTERFACE = {
    "errors": {name: ["__init__"] for name in ["UnknownName", "InvalidAction", "InvalidNotation", "InvalidCertificate",
                                               "TooMany", "NameInUse"]}
    | {name: [] for name in ["WhoevermayError", "InvalidCharter", "InvalidGoal", "InvalidEntry", "InvalidQuestion",
                             "NothingToUndo", "NothingToRedo"]},
    "charters": {"is_name": None, "Charter": ["shared", "founder_names", "rule_names", "rule", "founder", "ordered",
                                              "with_rule", "without_rules", "with_founder"]},
    "notation": {"format_charter": None, "parse_charter": None},
    "organisations": {"check_trusted": None, "check_goal": None, "run": None,
                      "Organisation": ["people", "holds", "holders", "copy", "can_do", "do", "meets"]},
    "histories": {"History": ["__init__", "length", "at", "first_moment", "spans", "joined", "givers"]},
    "reach": {"Plan": ["__init__"], "can_come": None, "fewest_steps": None, "closed_list": None, "check_closed": None},
    "plans": {name: None for name in ["check_plan", "shortened", "steps_of", "taking_part", "joins_first", "plan_text",
                                      "parse_plan"]},
    "questions": {name: None for name in ["who_can", "together", "reachable_types", "needed_rules", "cuts", "trust_cuts",
                                          "idle_rules"]},
    "crowds": {"most_at_once": None, "needed_founders": None, "least_steps": None},
    "bench": {"decide": None, "Workbench": ["__init__", "set_charter", "remove_charter", "set_rule", "remove_rule", "ask", "drop",
                                            "undo", "redo", "change_all", "charter_names", "question_names", "charter", "question",
                                            "answer", "answers"]},
    "commands": {"split_words": None, "goal_of": None, "is_command": None},
    "session": {"Session": ["__init__", "run"]},
    "certificates": {"certificate": None, "check_certificate": None},
    "amendments": {"newly_held": None, "no_longer_held": None, "opened_by": None, "closed_by": None},
    "ledgers": {"Grant": ["__init__"],
                "Ledger": ["__init__", "grants", "taken_back", "owner", "standing", "holds", "may_pass", "holders", "grant",
                           "take_back", "restore", "would_lose", "chains"]},
    "roles": {"all_roles": None, "roles": None, "missing_roles": None, "role_plan": None, "strange_role": None},
}


def tree_of(path):
    return ast.parse(path.read_text(encoding="utf-8"))


def defined(body):
    return {row.name: row for row in body if isinstance(row, (ast.FunctionDef, ast.ClassDef))}


class Language(unittest.TestCase):
    def each(self):
        return [(path, tree_of(path)) for path in FILES]

    def test_the_folder_holds_nothing_else(self):
        self.assertIn(FOLDER / "__init__.py", FILES)
        for path in FOLDER.glob("**/*"):
            if "__pycache__" not in path.parts:
                self.assertIn(path, FILES)

    def test_the_init_file_defines_nothing(self):
        self.assertEqual(tree_of(FOLDER / "__init__.py").body, [])

    def test_characters_and_sizes(self):
        for path, tree in self.each():
            text = path.read_text(encoding="utf-8")
            self.assertTrue(all(sign == "\n" or " " <= sign <= "~" for sign in text))
            self.assertLess(len(text.split("\n")), 400)
            self.assertLessEqual(max(len(line) for line in text.split("\n")), 120)
            for node in ast.walk(tree):
                if isinstance(node, ast.FunctionDef):
                    self.assertLessEqual(node.end_lineno - node.lineno + 1, 40, node.name)

    def test_imports_name_the_file_that_defines(self):
        for path, tree in self.each():
            for node in ast.walk(tree):
                if isinstance(node, ast.ImportFrom) and node.module in LIBRARY:
                    self.assertLessEqual({alias.name for alias in node.names}, LIBRARY[node.module])
                elif isinstance(node, ast.ImportFrom):
                    self.assertEqual((node.level, node.module.split(".")[0]), (0, "whoevermay"))
                    source = tree_of(FOLDER / (node.module.split(".")[1] + ".py")).body
                    plain = [row.targets[0].id for row in source if isinstance(row, ast.Assign)]
                    for alias in node.names:
                        self.assertIn(alias.name, [*defined(source), *plain])
                        self.assertIsNone(alias.asname)

    def test_no_two_files_import_each_other(self):
        after = {path.stem: {node.module.split(".")[1] for node in ast.walk(tree)
                             if isinstance(node, ast.ImportFrom) and node.module not in LIBRARY}
                 for path, tree in self.each()}
        while after:
            free = [name for name, sources in after.items() if not sources & set(after)]
            self.assertNotEqual(free, [], after)
            after = {name: sources for name, sources in after.items() if name not in free}

    def test_statements_names_and_calls(self):
        own = {name for path in FILES for row in tree_of(path).body if isinstance(row, ast.ClassDef)
               for name in defined(row.body)}
        for _, tree in self.each():
            taken = {alias.name for node in ast.walk(tree) if isinstance(node, ast.ImportFrom) for alias in node.names}
            taken.update(row.name for row in tree.body if isinstance(row, ast.ClassDef))
            for node in ast.walk(tree):
                self.assertNotIsInstance(node, BARRED)
                if isinstance(node, ast.Name):
                    self.assertNotIn(node.id, WORDS)
                    self.assertTrue(node.id in BUILTINS or not hasattr(builtins, node.id), node.id)
                    self.assertTrue(isinstance(node.ctx, ast.Load) or node.id not in taken | BUILTINS, node.id)
                if isinstance(node, ast.Call) and isinstance(node.func, ast.Attribute):
                    self.assertIn(node.func.attr, METHODS | own)
                if isinstance(node, ast.Call):
                    stars = [part.value for part in node.args if isinstance(part, ast.Starred)]
                    self.assertTrue(all(isinstance(part, ast.Name) for part in stars))

    def test_functions_and_classes(self):
        for _, tree in self.each():
            for node in ast.walk(tree):
                if isinstance(node, ast.FunctionDef):
                    marks = [mark.id for mark in node.decorator_list]
                    self.assertIn(marks, ([], ["property"]))
                    self.assertTrue("__" not in node.name or node.name in DOUBLE)
                    self.assertIsNone(node.returns)
                    names = [part.arg for part in (*node.args.args, *node.args.kwonlyargs)]
                    self.assertFalse([name for name in names if hasattr(builtins, name)])
                if isinstance(node, ast.ClassDef):
                    self.assertEqual(node.decorator_list, [])
                    for row in node.body:
                        self.assertTrue(isinstance(row, ast.FunctionDef) or isinstance(row.value, ast.Constant))


class Interface(unittest.TestCase):
    def test_everything_is_defined_in_its_file(self):
        for stem, parts in INTERFACE.items():
            found = defined(tree_of(FOLDER / f"{stem}.py").body)
            for name, methods in parts.items():
                with self.subTest(f"{stem}.{name}"):
                    self.assertIn(name, found)
                    self.assertEqual(isinstance(found[name], ast.ClassDef), methods is not None)
                    for method in methods or []:
                        self.assertIn(method, defined(found[name].body))


if __name__ == "__main__":
    unittest.main()
