"""The package's own files, beside the rules of form that can be seen by a plain look."""

import ast
import builtins
import pathlib
import re
import unittest

PACKAGE = pathlib.Path(__file__).resolve().parent.parent / "wrongturn"

# Statements and expressions that L6 and L7 have.
NODES = (
    ast.Module, ast.FunctionDef, ast.ClassDef, ast.arguments, ast.arg, ast.Assign, ast.AugAssign, ast.If, ast.While,
    ast.For, ast.Return, ast.Break, ast.Continue, ast.Pass, ast.Raise, ast.Try, ast.ExceptHandler, ast.Expr,
    ast.Constant, ast.Name, ast.Attribute, ast.Subscript, ast.Slice, ast.List, ast.Tuple, ast.Dict, ast.Call,
    ast.keyword, ast.BinOp, ast.UnaryOp, ast.BoolOp, ast.Compare, ast.IfExp, ast.Lambda, ast.ListComp,
    ast.comprehension, ast.JoinedStr, ast.FormattedValue, ast.expr_context, ast.operator, ast.unaryop,
    ast.boolop, ast.cmpop,
)

# Of L8, what the package needs.
BUILT_IN = ("enumerate", "len", "list", "range", "sum")

# L25.
METHODS = """append clear copy count endswith extend find get index insert isalnum isalpha isdigit islower isspace
isupper items join keys ljust lower lstrip partition pop remove replace reverse rfind rjust rpartition rsplit rstrip
setdefault split splitlines startswith strip update upper values zfill bit_length""".split()

# L17's last list.
WORDS = """type typing typing_extensions enum Enum IntEnum StrEnum Flag IntFlag Generic Protocol ABC ABCMeta
namedtuple NamedTuple TypedDict TYPE_CHECKING abstractmethod""".split()


def sources():
    return sorted(PACKAGE.glob("**/*.py"))


def walked():
    for path in sources():
        for node in ast.walk(ast.parse(path.read_text(encoding="utf-8"))):
            yield path.name, node


class Form(unittest.TestCase):
    def test_the_folder_holds_plain_files_alone(self):
        lying = [path for path in PACKAGE.glob("**/*") if "__pycache__" not in path.parts]
        self.assertEqual(sorted(lying), sources())
        self.assertEqual([path.name for path in lying if not re.fullmatch(r"[a-z0-9_]+\.py", path.name)], [])
        self.assertIn(PACKAGE / "__init__.py", lying)

    def test_rows_and_signs(self):
        for path in sources():
            text = path.read_text(encoding="utf-8")
            self.assertIsNone(re.search(r"[^ -~\n]", text), path.name)
            rows = text.split("\n")
            self.assertLessEqual(len(rows), 400, path.name)
            self.assertLessEqual(max(len(row) for row in rows), 120, path.name)

    def test_words_that_stand_nowhere(self):
        for path in sources():
            found = re.findall(r"\w+", path.read_text(encoding="utf-8"))
            self.assertEqual(sorted(set(found) & set(WORDS)), [], path.name)
            self.assertEqual([word for word in found if re.search("dataclass|overload|contextmanager", word)], [], path.name)

    def test_statements_and_expressions(self):
        for name, node in walked():
            self.assertIsInstance(node, NODES, (name, getattr(node, "lineno", 0)))
            if isinstance(node, ast.BinOp):
                self.assertNotIsInstance(node.op, (ast.Div, ast.MatMult, ast.Pow), (name, node.lineno))
            if isinstance(node, ast.Assign):
                self.assertEqual(len(node.targets), 1, (name, node.lineno))
            if isinstance(node, ast.Constant):
                self.assertIsInstance(node.value, (int, str, type(None)), (name, node.lineno))

    def test_comprehensions_and_what_is_beside_is(self):
        for name, node in walked():
            if isinstance(node, ast.ListComp):
                self.assertEqual(len(node.generators), 1, (name, node.lineno))
                self.assertLessEqual(len(node.generators[0].ifs), 1, (name, node.lineno))
            if isinstance(node, ast.Compare) and isinstance(node.ops[0], (ast.Is, ast.IsNot)):
                self.assertIn(getattr(node.comparators[0], "value", "no such"), (None, True, False), (name, node.lineno))

    def test_what_is_walked_at_once_is_not_kept(self):
        for name, node in walked():
            if isinstance(node, (ast.Assign, ast.Return)) and isinstance(node.value, ast.Call):
                called = getattr(node.value.func, "id", getattr(node.value.func, "attr", ""))
                self.assertNotIn(called, ("zip", "enumerate", "reversed", "range", "items", "keys", "values"), (name, node.lineno))

    def test_each_name_of_a_files_top_once(self):
        for path in sources():
            names = []
            for node in ast.parse(path.read_text(encoding="utf-8")).body:
                if isinstance(node, ast.Assign):
                    names.append(node.targets[0].id)
                elif not isinstance(node, ast.Expr):
                    names.append(node.name)
            self.assertEqual(sorted(set(names)), sorted(names), path.name)

    def test_functions(self):
        for name, node in walked():
            if isinstance(node, ast.FunctionDef):
                self.assertLessEqual(node.end_lineno - node.lineno + 1, 40, (name, node.name))
                self.assertEqual(node.decorator_list, [], (name, node.name))
                given = node.args
                self.assertFalse(given.vararg or given.kwarg or given.kwonlyargs or given.posonlyargs, (name, node.name))

    def test_names_of_pythons_own(self):
        for name, node in walked():
            if isinstance(node, ast.Name) and hasattr(builtins, node.id):
                self.assertIn(node.id, BUILT_IN, (name, node.lineno))
            if isinstance(node, ast.arg):
                self.assertFalse(hasattr(builtins, node.arg), (name, node.lineno))
            if isinstance(node, ast.Call) and isinstance(node.func, ast.Attribute):
                self.assertIn(node.func.attr, METHODS, (name, node.lineno))

    def test_no_name_begins_with_an_underscore(self):
        for name, node in walked():
            called = [getattr(node, field, None) for field in ("id", "arg", "attr", "name")]
            for word in called:
                if isinstance(word, str) and word != "__init__":
                    self.assertFalse(word.startswith("_"), (name, word))

    def test_nothing_is_imported(self):
        self.assertEqual([name for name, node in walked() if isinstance(node, (ast.Import, ast.ImportFrom))], [])
