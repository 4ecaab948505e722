"""The form of the package's files, as far as it is easy to check."""

import ast
import builtins
import io
import tokenize
import unittest
from pathlib import Path

PACKAGE = Path(__file__).resolve().parent.parent / "sideweave"
LIBRARY = ("heapq", "math", "itertools", "collections")
BUILTINS = """
    len range enumerate zip min max sum abs sorted reversed int str bool list tuple dict set isinstance ord repr any all
    divmod ValueError
""".split()
METHODS = """
    append clear copy count endswith extend find get index insert isalnum isalpha isdigit islower isspace isupper items
    join keys ljust lower lstrip partition pop remove replace reverse rfind rjust rpartition rsplit rstrip setdefault
    split splitlines startswith strip update upper values zfill bit_length
""".split()
AT_ONCE = "list tuple dict sorted sum min max any all".split()
WORDS = """
    type typing enum Enum Generic Protocol ABC namedtuple NamedTuple TypedDict register mro elements open input law eval
    exec compile dir exit help id license locals globals os quit vars chr
""".split()
STATEMENTS = (ast.Assign, ast.AugAssign, ast.If, ast.While, ast.For, ast.Return, ast.Break, ast.Continue, ast.Pass,
              ast.Raise, ast.Delete, ast.Try, ast.Expr, ast.FunctionDef, ast.ClassDef, ast.ImportFrom)


def called(node):
    """Return the name of the function or method that a call calls, or None."""
    if not isinstance(node, ast.Call):
        return None
    return node.func.id if isinstance(node.func, ast.Name) else getattr(node.func, "attr", None)


def is_docstring(node, parent):
    return isinstance(parent, ast.Expr) and isinstance(node, ast.Constant)


class Sources(unittest.TestCase):
    def setUp(self):
        self.texts = {path.name: path.read_bytes().decode("ascii") for path in sorted(PACKAGE.glob("*.py"))}
        self.trees = {name: ast.parse(text) for name, text in self.texts.items()}

    def nodes(self):
        """Return all nodes as (file, parent, node)."""
        return [(name, parent, node) for name, tree in self.trees.items()
                for parent in ast.walk(tree) for node in ast.iter_child_nodes(parent)]

    def where(self, name, node):
        return f"{name}:{getattr(node, 'lineno', 0)}"

    def test_the_folder_holds_sources_alone(self):
        others = [path.name for path in PACKAGE.iterdir() if path.suffix != ".py" and path.name != "__pycache__"]
        self.assertEqual(others, [])
        self.assertIn("__init__.py", self.texts)

    def test_sizes_and_characters(self):
        for name, text in self.texts.items():
            self.assertLessEqual(len(text.splitlines()), 399, name)
            self.assertLessEqual(max(map(len, text.splitlines())), 120, name)
            self.assertEqual([sign for sign in text if sign != "\n" and not " " <= sign <= "~"], [], name)

    def test_functions_are_short_and_plain(self):
        for name, parent, node in self.nodes():
            if isinstance(node, ast.FunctionDef):
                where = self.where(name, node)
                self.assertLessEqual(node.end_lineno - node.lineno + 1, 40, where)
                self.assertEqual(node.decorator_list, [], where)
                self.assertIsInstance(parent, (ast.Module, ast.ClassDef), where)
                self.assertIsNotNone(ast.get_docstring(node) or node.name == "__init__" or None, where)
            if isinstance(node, ast.ClassDef):
                self.assertIsNotNone(ast.get_docstring(node), self.where(name, node))

    def test_imports(self):
        for name, tree in self.trees.items():
            for node in ast.walk(tree):
                self.assertNotIsInstance(node, ast.Import, name)
                if isinstance(node, ast.ImportFrom):
                    self.assertTrue(node.module in LIBRARY or node.module.startswith("sideweave."), (name, node.module))
                    if node.module not in LIBRARY:
                        own = self.trees[node.module.split(".")[1] + ".py"].body
                        defined = [part.name for part in own if isinstance(part, (ast.FunctionDef, ast.ClassDef))]
                        defined += [part.targets[0].id for part in own if isinstance(part, ast.Assign)]
                        self.assertEqual([part.name for part in node.names if part.name not in defined], [], name)

    def test_no_two_files_import_from_each_other(self):
        reached = {name: {node.module.split(".")[1] + ".py" for node in tree.body
                          if isinstance(node, ast.ImportFrom) and node.module.startswith("sideweave.")}
                   for name, tree in self.trees.items()}
        for _ in reached:
            for name in reached:
                reached[name] |= set().union(*[reached[other] for other in reached[name]])
        self.assertEqual([name for name in reached if name in reached[name]], [])

    def test_names(self):
        for name, tree in self.trees.items():
            imported = [part.name for node in ast.walk(tree) if isinstance(node, ast.ImportFrom) for part in node.names]
            taken = [node.name for node in tree.body if isinstance(node, (ast.ClassDef, ast.FunctionDef))]
            read = [node.id for node in ast.walk(tree) if isinstance(node, ast.Name) and isinstance(node.ctx, ast.Load)]
            read += [base.id for node in tree.body if isinstance(node, ast.ClassDef) for base in node.bases]
            self.assertEqual([part for part in imported if part not in read], [], name)
            bound = imported + taken
            self.assertEqual(len(bound), len(set(bound)), name)
            for node in ast.walk(tree):
                own = node.arg if isinstance(node, ast.arg) else ""
                if isinstance(node, ast.Name) and isinstance(node.ctx, ast.Store) and node.id != "_":
                    own = node.id
                self.assertNotIn(own, imported + taken + dir(builtins), self.where(name, node))

    def test_methods_and_attributes(self):
        methods, attributes = [], []
        for _, parent, node in self.nodes():
            if isinstance(parent, ast.ClassDef) and isinstance(node, ast.FunctionDef):
                methods.append(node.name)
            if isinstance(node, ast.Attribute) and isinstance(node.ctx, ast.Store):
                attributes.append(node.attr)
        values = [dir(kind) for kind in (int, str, list, dict, set, bytes, tuple)]
        self.assertEqual(set(methods) & set(attributes), set())
        for own in set(methods + attributes) - {"__init__"}:
            self.assertNotIn(own, sum(values, []))
        for name, parent, node in self.nodes():
            if isinstance(node, ast.Attribute) and isinstance(node.ctx, ast.Load):
                self.assertIn(node.attr, METHODS + methods + attributes, self.where(name, node))
                if node.attr in METHODS + methods:
                    self.assertIs(getattr(parent, "func", None), node, self.where(name, node))

    def test_builtins(self):
        for name, _, node in self.nodes():
            if isinstance(node, ast.Name) and isinstance(node.ctx, ast.Load) and node.id in dir(builtins):
                self.assertIn(node.id, BUILTINS + ["super"], self.where(name, node))
            keywords = [part.arg for part in node.keywords] if isinstance(node, ast.Call) else []
            self.assertLessEqual(set(keywords), {"key", "reverse", "default", "start"}, self.where(name, node))

    def test_what_is_iterated_at_once(self):
        for name, parent, node in self.nodes():
            where = self.where(name, node)
            if called(node) in ("zip", "enumerate", "reversed", "items", "keys", "values"):
                at_once = isinstance(parent, (ast.For, ast.comprehension)) and parent.iter is node
                self.assertTrue(at_once or called(parent) in AT_ONCE + ["enumerate", "zip"], where)
            if isinstance(node, ast.GeneratorExp):
                self.assertIn(called(parent), AT_ONCE + ["join"], where)
                others = [part for part in parent.args if not isinstance(part, (ast.Name, ast.Constant))]
                self.assertEqual(others, [node], where)
            if called(node) == "set" or isinstance(node, (ast.Set, ast.SetComp)):
                in_test = isinstance(parent, ast.Compare) and isinstance(parent.ops[0], (ast.In, ast.NotIn, ast.Eq))
                self.assertTrue(in_test or called(parent) in ("sorted", "len"), where)

    def test_other_rules(self):
        for name, parent, node in self.nodes():
            where = self.where(name, node)
            if isinstance(node, ast.stmt):
                self.assertIsInstance(node, STATEMENTS, where)
            self.assertNotIsInstance(node, (ast.Div, ast.Lambda, ast.NamedExpr, ast.Starred, ast.Yield), where)
            if isinstance(node, ast.Compare) and isinstance(node.ops[0], (ast.Is, ast.IsNot)):
                self.assertIsNone(node.comparators[0].value, where)
            if isinstance(node, ast.Constant) and not is_docstring(node, parent):
                self.assertNotIsInstance(node.value, (float, complex, bytes), where)
                self.assertNotIn("%", str(node.value), where)
            if isinstance(node, ast.Raise) and node.exc is not None:
                self.assertIsInstance(node.exc, ast.Call, where)

    def test_words(self):
        for name, text in self.texts.items():
            for token in tokenize.generate_tokens(io.StringIO(text).readline):
                if token.type != tokenize.COMMENT and not token.string.startswith('"""'):
                    self.assertNotIn(token.string.strip("\"'"), WORDS, (name, token.start))
                if token.type == tokenize.NAME:
                    self.assertFalse(token.string.startswith("__") and token.string != "__init__", (name, token.start))


if __name__ == "__main__":
    unittest.main()
