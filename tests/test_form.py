"""The part of Python that the package keeps to, as far as it can be seen in the syntax."""

import ast
import builtins
import pathlib
import re
import unittest

ROOT = pathlib.Path(__file__).resolve().parent.parent
PACKAGE = ROOT / "nameorder"
FILES = sorted(PACKAGE.rglob("*.py"))
TEXTS = {path.name: path.read_text(encoding="utf-8") for path in FILES}
TREES = {file_name: ast.parse(text) for file_name, text in TEXTS.items()}

NODES = (
    "Module FunctionDef ClassDef arguments arg Return Assign AugAssign For While If Raise Try ExceptHandler ImportFrom "
    "alias Expr Pass Break Continue BoolOp And Or BinOp Add Sub Mult FloorDiv Mod UnaryOp Not USub Lambda IfExp Dict "
    "ListComp comprehension Compare Eq NotEq Lt LtE Gt GtE Is IsNot In NotIn Call keyword Constant Attribute Subscript "
    "Slice Name List Tuple Load Store"
).split()
OWN_OF_PYTHON = (
    "len range enumerate zip min max sum abs sorted reversed int str bool list tuple dict set frozenset isinstance ord "
    "repr any all divmod Exception ValueError TypeError KeyError IndexError LookupError ZeroDivisionError "
    "ArithmeticError OverflowError RuntimeError NotImplementedError AttributeError StopIteration"
).split()
METHODS = (
    "append clear copy count endswith extend find get index insert isalnum isalpha isdigit islower isspace isupper "
    "items join keys ljust lower lstrip partition pop remove replace reverse rfind rjust rpartition rsplit rstrip "
    "setdefault split splitlines startswith strip update upper values zfill bit_length"
).split()
NOWHERE = (
    "type typing typing_extensions enum Enum IntEnum StrEnum Flag IntFlag Generic Protocol ABC ABCMeta namedtuple "
    "NamedTuple TypedDict TYPE_CHECKING abstractmethod register mro elements open input"
).split()
PYTHONS_ATTRIBUTES = {word for kind in (str, int, list, dict, set, bytes) for word in dir(kind)}
VALUES_ALL_THE_SAME = "count index title find get join lower upper split strip copy add".split()


def bound_names(tree):
    for node in ast.walk(tree):
        if isinstance(node, (ast.FunctionDef, ast.ClassDef)):
            yield node.name
        elif isinstance(node, ast.arg):
            yield node.arg
        elif isinstance(node, ast.Name) and isinstance(node.ctx, ast.Store):
            yield node.id


def is_call_of(node, names):
    return isinstance(node, ast.Call) and isinstance(node.func, ast.Name) and node.func.id in names


class TestForm(unittest.TestCase):
    def test_files(self):
        self.assertIn(PACKAGE / "__init__.py", FILES)
        for path in PACKAGE.rglob("*"):
            if path.name != "__pycache__" and path.parent.name != "__pycache__":
                self.assertRegex(path.name, r"\A([a-z][a-z0-9_]*|__init__|__main__)\.py\Z")

    def test_signs_and_sizes(self):
        for file_name, text in TEXTS.items():
            self.assertRegex(text, r"\A[ -~\n]*\Z", file_name)
            rows = text.split("\n")
            self.assertLessEqual(len(rows), 400, file_name)
            self.assertLessEqual(max(len(row) for row in rows), 120, file_name)
            for node in ast.walk(TREES[file_name]):
                if isinstance(node, ast.FunctionDef):
                    self.assertLessEqual(node.end_lineno - node.lineno + 1, 40, node.name)

    def test_words_that_stand_nowhere(self):
        for file_name, text in TEXTS.items():
            words = set(re.findall(r"[A-Za-z_0-9]+", text))
            self.assertEqual(words & set(NOWHERE), set(), file_name)
            self.assertIsNone(re.search("dataclass|overload|contextmanager", text))

    def test_syntax(self):
        for file_name, tree in TREES.items():
            for node in ast.walk(tree):
                self.assertIn(type(node).__name__, NODES, f"{file_name}: {ast.dump(node)}")
                if isinstance(node, (ast.For, ast.While)):
                    self.assertEqual(node.orelse, [])
                if isinstance(node, ast.Assign):
                    self.assertEqual(len(node.targets), 1)
                    self.assertNotIsInstance(node.targets[0], (ast.Tuple, ast.List))
                if isinstance(node, ast.ListComp):
                    self.assertEqual(len(node.generators), 1)
                    self.assertLessEqual(len(node.generators[0].ifs), 1)
                if isinstance(node, ast.FunctionDef):
                    self.assertEqual(node.decorator_list, [])
                    self.assertIsNone(node.args.vararg or node.args.kwarg)
                    self.assertEqual(node.args.kwonlyargs + node.args.posonlyargs, [])
                if isinstance(node, ast.Constant):
                    self.assertIn(type(node.value), (int, str, bool, type(None)))

    def test_top_of_a_file(self):
        for file_name, tree in TREES.items():
            self.assertIsNotNone(ast.get_docstring(tree), file_name)
            bound = []
            for node in tree.body[1:]:
                self.assertIsInstance(node, (ast.ImportFrom, ast.FunctionDef, ast.ClassDef, ast.Assign))
                if isinstance(node, ast.ImportFrom):
                    self.assertEqual(node.level, 0)
                    self.assertTrue(node.module.startswith("nameorder."))
                    source = ast.parse((PACKAGE / (node.module.split(".")[1] + ".py")).read_text())
                    own = {row.name for row in source.body if isinstance(row, (ast.FunctionDef, ast.ClassDef))}
                    own |= {row.targets[0].id for row in source.body if isinstance(row, ast.Assign)}
                    for alias in node.names:
                        self.assertIsNone(alias.asname)
                        self.assertIn(alias.name, own)
                        bound.append(alias.name)
                elif isinstance(node, ast.Assign):
                    bound.append(node.targets[0].id)
                else:
                    bound.append(node.name)
            self.assertEqual(len(bound), len(set(bound)))

    def test_no_import_goes_in_a_ring(self):
        draws = {}
        for file_name, tree in TREES.items():
            draws[file_name.split(".")[0]] = {
                node.module.split(".")[1] for node in tree.body if isinstance(node, ast.ImportFrom)
            }
        while draws:
            free = [stem for stem in draws if not draws[stem] & set(draws)]
            self.assertNotEqual(free, [])
            draws = {stem: draws[stem] for stem in draws if stem not in free}

    def test_names(self):
        for file_name, tree in TREES.items():
            for name in bound_names(tree):
                if name != "__init__":
                    self.assertRegex(name, r"\A[A-Za-z][A-Za-z0-9_]*\Z")
                    self.assertFalse(hasattr(builtins, name), name)
            for node in ast.walk(tree):
                if isinstance(node, ast.Name) and hasattr(builtins, node.id):
                    self.assertIn(node.id, OWN_OF_PYTHON)

    def test_no_local_is_called_like_a_name_of_the_top(self):
        for file_name, tree in TREES.items():
            top = {row.name for row in tree.body if isinstance(row, (ast.FunctionDef, ast.ClassDef))}
            for row in tree.body:
                if isinstance(row, ast.ImportFrom):
                    top |= {alias.name for alias in row.names}
            for node in ast.walk(tree):
                if isinstance(node, ast.arg):
                    self.assertNotIn(node.arg, top)
                if isinstance(node, ast.Name) and isinstance(node.ctx, ast.Store):
                    self.assertNotIn(node.id, top)

    def test_sets_stand_straight_within_len_or_sorted(self):
        for file_name, tree in TREES.items():
            made = {id(node) for node in ast.walk(tree) if is_call_of(node, ("set", "frozenset"))}
            asked = {
                id(node.args[0]) for node in ast.walk(tree) if is_call_of(node, ("len", "sorted")) and not node.keywords
            }
            self.assertLessEqual(made, asked, file_name)

    def test_what_is_walked_at_once(self):
        for file_name, tree in TREES.items():
            walked = {id(node.iter) for node in ast.walk(tree) if isinstance(node, (ast.For, ast.comprehension))}
            for node in ast.walk(tree):
                if is_call_of(node, "list tuple dict sorted sum any all enumerate zip min max".split()) and node.args:
                    walked.add(id(node.args[0]))
            for node in ast.walk(tree):
                if is_call_of(node, ("zip", "enumerate", "reversed", "range")):
                    self.assertIn(id(node), walked, file_name)
                if isinstance(node, ast.Call) and isinstance(node.func, ast.Attribute):
                    if node.func.attr in ("items", "keys", "values"):
                        self.assertIn(id(node), walked, file_name)

    def test_methods_and_values(self):
        for file_name, tree in TREES.items():
            called = {id(node.func) for node in ast.walk(tree) if isinstance(node, ast.Call)}
            for node in ast.walk(tree):
                if isinstance(node, ast.Attribute) and id(node) in called:
                    self.assertIn(node.attr, METHODS)
                elif isinstance(node, ast.Attribute):
                    self.assertTrue(node.attr not in PYTHONS_ATTRIBUTES or node.attr in VALUES_ALL_THE_SAME, node.attr)


if __name__ == "__main__":
    unittest.main()
