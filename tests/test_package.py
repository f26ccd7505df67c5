"""The names of the interface stand where the document lists them, and the files keep the plainest rules of language."""

import ast
import builtins
import doctest
import pathlib
import re
import unittest

PACKAGE = pathlib.Path(__file__).resolve().parent.parent / "stopsheld"

FUNCTIONS = {
    "words": {"wrap": ("integer",), "operate": ("operation", "a", "b"), "is_name": ("text",)},
    "programs": {"definitions": ("program",), "defined_by": ("instruction",), "uses_of": ("row",),
                 "edges": ("program",), "dominators": ("program",), "immediate": ("program",)},
    "reading": {"parse_lines": ("text",), "parse_program": ("text",)},
    "writing": {"program_text": ("program",)},
    "running": {"first_state": ("program", "inputs"), "step": ("program", "state", "given"),
                "run": ("program", "inputs", "given", "most"), "trace": ("program", "inputs", "given", "most")},
    "living": {"live_at": ("program", "point"), "live_into": ("program", "block"), "definition_sets": ("program",),
               "clashes": ("program",), "pressure": ("program",)},
    "colours": {"assign": ("program", "registers"), "conflicts": ("program", "assignment"),
                "cost": ("program", "assignment"), "coalesce": ("program", "assignment")},
    "moves": {"order_moves": ("moves",), "do_moves": ("moves", "contents")},
    "code": {"locations_in": ("code",), "location_order": ("locations",)},
    "codetext": {"parse_code": ("text",), "code_text": ("code",)},
    "machine": {"first": ("code", "inputs"), "tick": ("code", "state", "given"), "is_step": ("code", "place"),
                "run_code": ("code", "inputs", "given", "most")},
    "making": {"make_code": ("program", "assignment")},
    "papers": {"greatest": ("program", "code"), "check_paper": ("program", "code", "paper"),
               "find_paper": ("program", "code"), "follow_move": ("facts", "move"),
               "follow_line": ("facts", "line", "variable")},
    "stops": {"point_of": ("code", "place"), "facts_at": ("program", "code", "paper", "place"),
              "told_at": ("program", "code", "paper", "place")},
    "listing": {"listing": ("program", "code"), "read_listing": ("text",)},
    "questions": {"steps_made": ("session",), "defined": ("session", "variable"), "since": ("session", "condition"),
                  "slice_of": ("session", "variable"), "words_of": ("session", "variable")},
    "journal": {"replay": ("program", "code", "inputs", "given", "many", "text")},
}
CLASSES = {
    "errors": ("StopsError", "BadProgram", "BadCode", "Clash", "BadPaper", "BadArgument", "BadJournal"),
    "sessions": ("Session",),
}
METHODS = {
    "__init__": ("program", "code", "inputs", "given", "many"), "forth": (), "back": (), "to": ("position",),
    "until": ("condition",), "back_until": ("condition",), "branch": ("given",), "go": ("timeline",), "position": (),
    "length": (), "timeline": (), "timelines": (), "snapshots": (), "ticks": (), "stop": (), "state": (),
    "journal": (),
}

# L8; print is for __main__.py alone.
BUILTINS = set("""len range enumerate zip min max sum abs sorted reversed int str bool list tuple dict set frozenset
    isinstance ord repr any all divmod pow getattr hasattr setattr iter next map Exception ValueError TypeError KeyError
    IndexError LookupError ZeroDivisionError ArithmeticError OverflowError RuntimeError NotImplementedError
    AttributeError StopIteration NotImplemented super property staticmethod classmethod""".split())
LIBRARY = {"heapq", "math", "itertools", "collections", "__future__"}
NOT_USED = {"register", "mro", "elements", "open", "input", "law", "version_info", "with_traceback", "add_note"}


def trees():
    """Give (path, text, tree) of each file of the package."""
    found = []
    for path in sorted(PACKAGE.rglob("*.py")):
        text = path.read_text(encoding="utf-8")
        found.append((path, text, ast.parse(text)))
    return found


def bound_names(tree):
    """Give all names that a file binds, other than attributes and methods."""
    methods = [row for node in ast.walk(tree) if isinstance(node, ast.ClassDef) for row in node.body]
    for node in ast.walk(tree):
        if isinstance(node, ast.Name) and isinstance(node.ctx, ast.Store):
            yield node.id
        if isinstance(node, ast.arg):
            yield node.arg
        if isinstance(node, (ast.FunctionDef, ast.ClassDef)) and node not in methods:
            yield node.name


class InterfaceTest(unittest.TestCase):
    def defined_in(self, module, kind):
        tree = ast.parse((PACKAGE / f"{module}.py").read_text(encoding="utf-8"))
        return {node.name: node for node in tree.body if isinstance(node, kind)}

    def test_functions_are_defined_in_their_files(self):
        for module, functions in FUNCTIONS.items():
            found = self.defined_in(module, ast.FunctionDef)
            for name, arguments in functions.items():
                self.assertIn(name, found, module)
                self.assertEqual(tuple(row.arg for row in found[name].args.args), arguments, name)

    def test_classes_are_defined_in_their_files(self):
        for module, names in CLASSES.items():
            found = self.defined_in(module, ast.ClassDef)
            for name in names:
                self.assertIn(name, found, module)

    def test_methods_are_defined_in_their_class(self):
        session = self.defined_in("sessions", ast.ClassDef)["Session"]
        found = {node.name: node for node in session.body if isinstance(node, ast.FunctionDef)}
        for name, arguments in METHODS.items():
            self.assertIn(name, found)
            self.assertEqual(tuple(row.arg for row in found[name].args.args), ("self",) + arguments, name)


class ReadmeTest(unittest.TestCase):
    def test_examples(self):
        text = (PACKAGE.parent / "README.md").read_text(encoding="utf-8").replace("```", "")
        examples = doctest.DocTestParser().get_doctest(text, {}, "README.md", "README.md", 0)
        self.assertGreater(len(examples.examples), 0)
        self.assertEqual(doctest.DocTestRunner().run(examples).failed, 0)


class LanguageTest(unittest.TestCase):
    def test_the_folder_holds_python_files_alone(self):
        for path in PACKAGE.rglob("*"):
            if "__pycache__" not in path.parts and not path.is_dir():
                self.assertRegex(path.name, r"\A[a-z0-9_]+\.py\Z")
        self.assertTrue((PACKAGE / "__init__.py").exists())

    def test_sizes(self):
        for path, text, tree in trees():
            lines = text.split("\n")
            self.assertLessEqual(len(lines), 400, path)
            self.assertLessEqual(max(len(line) for line in lines), 120, path)
            for node in ast.walk(tree):
                if isinstance(node, ast.FunctionDef):
                    self.assertLessEqual(node.end_lineno - node.lineno + 1, 40, (path, node.name))

    def test_characters(self):
        for path, text, _ in trees():
            self.assertIsNone(re.search(r"[^ -~\n]", text), path)

    def test_imports(self):
        for path, _, tree in trees():
            for node in ast.walk(tree):
                if isinstance(node, ast.Import):
                    self.assertEqual((path.name, [row.name for row in node.names]), ("__main__.py", ["sys"]))
                if isinstance(node, ast.ImportFrom):
                    self.assertEqual(node.level, 0, path)
                    self.assertIn(node, tree.body, path)
                    self.assertTrue(node.module.startswith("stopsheld.") or node.module in LIBRARY, node.module)

    def test_module_level(self):
        plain = (ast.FunctionDef, ast.ClassDef, ast.ImportFrom, ast.Assign)
        for path, _, tree in trees():
            for at, node in enumerate(tree.body):
                docstring = at == 0 and isinstance(node, ast.Expr) and isinstance(node.value, ast.Constant)
                self.assertTrue(docstring or isinstance(node, plain) or path.name == "__main__.py", (path, node.lineno))

    def test_builtins(self):
        for path, _, tree in trees():
            bound = set(bound_names(tree))
            self.assertEqual(bound & set(dir(builtins)), set(), path)
            self.assertEqual(bound & NOT_USED, set(), path)
            used = {node.id for node in ast.walk(tree) if isinstance(node, ast.Name)}
            self.assertEqual((used & set(dir(builtins))) - BUILTINS - {"print"}, set(), path)
            if path.name != "__main__.py":
                self.assertNotIn("print", used, path)

    def test_statements_and_numbers(self):
        for path, _, tree in trees():
            for node in ast.walk(tree):
                barred = isinstance(node, (ast.Global, ast.AsyncFunctionDef, ast.Await, ast.Div))
                barred = barred or (isinstance(node, ast.Constant) and isinstance(node.value, (float, complex)))
                self.assertFalse(barred, (path, getattr(node, "lineno", None)))


if __name__ == "__main__":
    unittest.main()
