"""The package's files keep to the part of Python that the program keeps to, as far as a look can tell."""

import ast
import builtins
import pathlib
import re
import unittest

PACKAGE = pathlib.Path(__file__).resolve().parent.parent / "hallcaptions"

ALLOWED_NAMES = set("""
len range enumerate zip min max sum abs sorted reversed int str bool list tuple dict set frozenset isinstance ord
repr any all divmod Exception ValueError TypeError KeyError IndexError LookupError ZeroDivisionError ArithmeticError
OverflowError RuntimeError NotImplementedError AttributeError StopIteration
""".split())

ALLOWED_METHODS = set("""
append clear copy count endswith extend find get index insert isalnum isalpha isdigit islower isspace isupper items
join keys ljust lower lstrip partition pop remove replace reverse rfind rjust rpartition rsplit rstrip setdefault split
splitlines startswith strip update upper values zfill bit_length
""".split())

WORDS_OUT = set("""
type typing typing_extensions enum Enum IntEnum StrEnum Flag IntFlag Generic Protocol ABC ABCMeta namedtuple NamedTuple
TypedDict TYPE_CHECKING abstractmethod
""".split())

PARTS_OUT = ("dataclass", "overload", "contextmanager")

NAMES_OUT = set("""
register mro elements open input version_info with_traceback add_note attrgetter breakpoint builtins compile copyright
credits delattr dir eval exec exit gc getattr globals hasattr help id importlib license locals methodcaller os quit
setattr super type vars sys format format_map
""".split())

STATEMENTS = (
    ast.Assign, ast.AugAssign, ast.If, ast.While, ast.For, ast.Return, ast.Break, ast.Continue, ast.Pass, ast.Raise,
    ast.Try, ast.Expr, ast.FunctionDef, ast.ClassDef, ast.ImportFrom,
)

EXPRESSIONS = (
    ast.Constant, ast.List, ast.Tuple, ast.Dict, ast.BinOp, ast.UnaryOp, ast.BoolOp, ast.Compare, ast.IfExp, ast.Call,
    ast.Attribute, ast.Subscript, ast.Slice, ast.ListComp, ast.JoinedStr, ast.FormattedValue, ast.Lambda, ast.Name,
)

OWN_OF_PYTHON = set()
for KIND in (str, int, list, dict, set, bytes, tuple):
    OWN_OF_PYTHON |= set(dir(KIND))


def files():
    return sorted(path for path in PACKAGE.rglob("*") if path.is_file() and "__pycache__" not in path.parts)


def trees():
    return [(path, ast.parse(path.read_text("utf-8"))) for path in files()]


def nodes(*kinds):
    for path, tree in trees():
        for node in ast.walk(tree):
            if isinstance(node, kinds):
                yield path.name, node


class Files(unittest.TestCase):
    def test_names(self):
        self.assertIn("__init__.py", [path.name for path in files()])
        for path in files():
            self.assertEqual(path.parent, PACKAGE)
            self.assertRegex(path.name, r"^(__init__|[a-z][a-z0-9_]*)\.py$")
            self.assertFalse(path.stem != "__init__" and hasattr(builtins, path.stem))
            self.assertFalse(path.stem in WORDS_OUT or re.match(r"test|site|conftest|usercustomize", path.stem))

    def test_size_and_signs(self):
        for path in files():
            rows = path.read_text("utf-8").split("\n")
            self.assertLessEqual(len(rows), 401, path.name)
            for row in rows:
                self.assertLessEqual(len(row), 120, path.name)
                self.assertRegex(row, r"^[ -~]*$", path.name)

    def test_words(self):
        for path in files():
            text = path.read_text("utf-8")
            self.assertFalse(set(re.findall(r"\w+", text)) & WORDS_OUT, path.name)
            for part in PARTS_OUT:
                self.assertNotIn(part, text)


class Forms(unittest.TestCase):
    def test_statements_and_expressions(self):
        for name, node in nodes(ast.stmt):
            self.assertIsInstance(node, STATEMENTS, (name, node.lineno))
        for name, node in nodes(ast.expr):
            self.assertIsInstance(node, EXPRESSIONS, (name, node.lineno))

    def test_imports(self):
        drawn = {}
        for path, tree in trees():
            drawn[path.stem] = []
            for node in tree.body:
                if isinstance(node, ast.ImportFrom):
                    self.assertRegex(node.module, r"^hallcaptions\.[a-z]+$")
                    self.assertEqual(node.level, 0)
                    drawn[path.stem].append(node.module.split(".")[1])
                    self.assertTrue(all(alias.name != "*" and alias.asname is None for alias in node.names))
        for name, node in nodes(ast.ImportFrom):
            self.assertEqual(node.col_offset, 0, name)
        left = dict(drawn)
        while left:
            free = [name for name in left if not set(left[name]) & set(left)]
            self.assertTrue(free, left)
            left = {name: left[name] for name in left if name not in free}

    def test_tops(self):
        for path, tree in trees():
            bound = []
            for place, node in enumerate(tree.body):
                if isinstance(node, ast.Expr):
                    self.assertTrue(place == 0 and isinstance(node.value, ast.Constant), path.name)
                elif isinstance(node, ast.Assign):
                    ast.literal_eval(node.value)
                    bound.append(node.targets[0].id)
                elif isinstance(node, ast.ImportFrom):
                    bound += [alias.name for alias in node.names]
                else:
                    self.assertIsInstance(node, (ast.FunctionDef, ast.ClassDef))
                    bound.append(node.name)
            self.assertEqual(len(bound), len(set(bound)), path.name)

    def test_calls_alone_stand_by_themselves(self):
        for path, tree in trees():
            for node in ast.walk(tree):
                if isinstance(node, ast.Expr) and node not in tree.body[:1]:
                    self.assertIsInstance(node.value, ast.Call, (path.name, node.lineno))

    def test_assignments_have_one_plain_target(self):
        for name, node in nodes(ast.Assign):
            self.assertEqual(len(node.targets), 1)
            self.assertIsInstance(node.targets[0], (ast.Name, ast.Attribute, ast.Subscript), (name, node.lineno))

    def test_functions(self):
        for name, node in nodes(ast.FunctionDef):
            self.assertLessEqual(node.end_lineno - node.lineno + 1, 40, node.name)
            self.assertEqual(node.decorator_list, [])
            self.assertIsNone(node.returns)
            plain = node.args
            self.assertFalse(plain.vararg or plain.kwarg or plain.kwonlyargs or plain.posonlyargs, node.name)
            self.assertTrue(all(arg.annotation is None for arg in plain.args))

    def test_classes(self):
        for name, node in nodes(ast.ClassDef):
            self.assertEqual((node.decorator_list, node.keywords), ([], []))
            self.assertLessEqual(len(node.bases), 1)
            self.assertTrue(all(isinstance(part, (ast.FunctionDef, ast.Pass)) for part in node.body), node.name)
            methods = [part.name for part in node.body if isinstance(part, ast.FunctionDef)]
            self.assertEqual(len(methods), len(set(methods)))
            self.assertTrue(all(not method.startswith("_") or method == "__init__" for method in methods))

    def test_no_loop_has_an_else(self):
        for name, node in nodes(ast.For, ast.While):
            self.assertEqual(node.orelse, [], name)

    def test_comprehensions(self):
        for name, node in nodes(ast.ListComp):
            self.assertEqual(len(node.generators), 1)
            self.assertLessEqual(len(node.generators[0].ifs), 1)

    def test_is_stands_beside_none(self):
        for name, node in nodes(ast.Compare):
            for sign, right in zip(node.ops, node.comparators):
                if isinstance(sign, (ast.Is, ast.IsNot)):
                    self.assertIsInstance(right, ast.Constant)

    def test_numbers_and_texts(self):
        for name, node in nodes(ast.Constant):
            self.assertIsInstance(node.value, (int, str, bool, type(None)), name)
            if isinstance(node.value, str):
                self.assertNotIn("%", node.value)
        for name, node in nodes(ast.Div, ast.Pow, ast.MatMult):
            self.fail((name, node))


class Names(unittest.TestCase):
    def own_parts(self):
        methods = set()
        values = set()
        for name, node in nodes(ast.ClassDef):
            methods |= {part.name for part in node.body if isinstance(part, ast.FunctionDef)}
        for name, node in nodes(ast.Attribute):
            if isinstance(node.ctx, ast.Store):
                values.add(node.attr)
        return methods - {"__init__"}, values

    def test_no_name_is_a_method_and_a_value(self):
        methods, values = self.own_parts()
        self.assertFalse(methods & values)
        self.assertFalse((methods | values) & OWN_OF_PYTHON)

    def test_attributes(self):
        methods, values = self.own_parts()
        for name, node in nodes(ast.Attribute):
            self.assertIn(node.attr, methods | values | ALLOWED_METHODS, (name, node.lineno))
            self.assertNotIn(node.attr, NAMES_OUT)

    def test_plain_names(self):
        for name, node in nodes(ast.Name):
            self.assertRegex(node.id, r"^[A-Za-z][A-Za-z0-9_]*$")
            self.assertNotIn(node.id, NAMES_OUT)
            if hasattr(builtins, node.id):
                self.assertIn(node.id, ALLOWED_NAMES, (name, node.lineno))
                self.assertIsInstance(node.ctx, ast.Load, (name, node.lineno))

    def test_parameters_and_locals_hide_nothing(self):
        for path, tree in trees():
            tops = set()
            for node in tree.body:
                if isinstance(node, ast.ImportFrom):
                    tops |= {alias.name for alias in node.names}
                elif isinstance(node, (ast.FunctionDef, ast.ClassDef)):
                    tops.add(node.name)
            for node in ast.walk(tree):
                given = node.arg if isinstance(node, ast.arg) else None
                if isinstance(node, ast.Name) and isinstance(node.ctx, ast.Store):
                    given = node.id
                self.assertFalse(given in tops or hasattr(builtins, str(given)) and given, (path.name, given))

    def test_keywords_stand_only_where_allowed(self):
        for name, node in nodes(ast.Call):
            self.assertFalse(any(keyword.arg not in ("key", "default", "start") for keyword in node.keywords))
            self.assertFalse(any(isinstance(arg, ast.Starred) for arg in node.args))


if __name__ == "__main__":
    unittest.main()
