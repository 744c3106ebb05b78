"""The package keeps to its part of Python: what can be seen of the rules L1 to L28 from the files."""

import ast
import builtins
import pathlib
import re
import unittest

FOLDER = pathlib.Path(__file__).resolve().parent.parent / "earthward"

STATEMENTS = (
    ast.Assign, ast.AugAssign, ast.If, ast.While, ast.For, ast.Return, ast.Break, ast.Continue, ast.Pass, ast.Raise,
    ast.Try, ast.Expr, ast.FunctionDef, ast.ClassDef, ast.ImportFrom,
)
EXPRESSIONS = (
    ast.BoolOp, ast.BinOp, ast.UnaryOp, ast.Lambda, ast.IfExp, ast.Dict, ast.ListComp, ast.Compare, ast.Call,
    ast.FormattedValue, ast.JoinedStr, ast.Constant, ast.Attribute, ast.Subscript, ast.Name, ast.List, ast.Tuple,
    ast.Slice,
)
OWN_NAMES = set(
    "len range enumerate zip min max sum abs sorted reversed int str bool list tuple dict set frozenset isinstance ord "
    "repr any all divmod Exception ValueError TypeError KeyError IndexError LookupError ZeroDivisionError "
    "ArithmeticError OverflowError RuntimeError NotImplementedError AttributeError StopIteration".split()
)
OWN_METHODS = set(
    "append clear copy count endswith extend find get index insert isalnum isalpha isdigit islower isspace isupper "
    "items join keys ljust lower lstrip partition pop remove replace reverse rfind rjust rpartition rsplit rstrip "
    "setdefault split splitlines startswith strip update upper values zfill bit_length".split()
)
WORDS_OUT = set(
    "type typing typing_extensions enum Enum IntEnum StrEnum Flag IntFlag Generic Protocol ABC ABCMeta namedtuple "
    "NamedTuple TypedDict TYPE_CHECKING abstractmethod".split()
)
NAMES_OUT = set("register mro elements open input version_info with_traceback add_note format format_map".split())
VALUES_OUT = set("items keys values pop update append clear extend insert remove reverse setdefault sort args encode "
                 "format".split())
DUNDERS = ("__init__", "__eq__", "__repr__", "__str__", "__len__")


def files():
    return sorted(path for path in FOLDER.rglob("*") if "__pycache__" not in path.parts)


def parsed(path):
    return ast.parse(path.read_text(encoding="utf-8"))


def bound(tree):
    """Every name that a file binds."""
    for node in ast.walk(tree):
        if isinstance(node, (ast.FunctionDef, ast.ClassDef)):
            yield node.name
        elif isinstance(node, ast.arg):
            yield node.arg
        elif isinstance(node, ast.Name) and isinstance(node.ctx, ast.Store):
            yield node.id
        elif isinstance(node, ast.Attribute) and isinstance(node.ctx, ast.Store):
            yield node.attr
        elif isinstance(node, ast.ExceptHandler) and node.name is not None:
            yield node.name
        elif isinstance(node, ast.alias):
            yield node.asname or node.name


def docstring(tree):
    return tree.body[0] if ast.get_docstring(tree) is not None else None


class Language(unittest.TestCase):
    def test_files_and_signs(self):
        self.assertIn("__init__.py", [path.name for path in files()])
        for path in files():
            self.assertRegex(path.name, r"^(__init__|[a-z][a-z0-9_]*)\.py$")
            self.assertNotIn(path.stem, dir(builtins))
            text = path.read_text(encoding="utf-8")
            self.assertEqual([sign for sign in text if sign != "\n" and not " " <= sign <= "~"], [], path)
            self.assertEqual(WORDS_OUT & set(re.findall(r"\w+", text)), set(), path)
            self.assertIsNone(re.search("dataclass|overload|contextmanager", text), path)

    def test_size(self):
        for path in files():
            rows = path.read_text(encoding="utf-8").split("\n")
            self.assertLessEqual(len(rows), 400, path)
            self.assertLessEqual(max(len(row) for row in rows), 120, path)
            for node in ast.walk(parsed(path)):
                if isinstance(node, ast.FunctionDef):
                    self.assertLessEqual(node.end_lineno - node.lineno + 1, 40, node.name)

    def test_imports(self):
        for path in files():
            for node in ast.walk(parsed(path)):
                if isinstance(node, ast.ImportFrom):
                    self.assertRegex(node.module, r"^earthward\.[a-z_0-9]+$")
                    self.assertEqual(node.level, 0)
                    source = parsed(FOLDER / (node.module.split(".")[1] + ".py"))
                    defined = [part.name for part in source.body if isinstance(part, (ast.FunctionDef, ast.ClassDef))]
                    defined += [part.targets[0].id for part in source.body if isinstance(part, ast.Assign)]
                    for name in node.names:
                        self.assertIn(name.name, defined, path)
                        self.assertIsNone(name.asname)

    def test_no_two_files_draw_from_one_another(self):
        drawn = {
            path.stem: [node.module.split(".")[1] for node in parsed(path).body if isinstance(node, ast.ImportFrom)]
            for path in files()
        }
        while drawn:
            done = [name for name in drawn if not set(drawn[name]) & set(drawn)]
            self.assertNotEqual(done, [], drawn)
            drawn = {name: drawn[name] for name in drawn if name not in done}

    def test_statements_and_expressions(self):
        for path in files():
            tree = parsed(path)
            for node in ast.walk(tree):
                where = (path.name, getattr(node, "lineno", 0), ast.dump(node)[:80])
                if isinstance(node, ast.stmt):
                    self.assertIsInstance(node, STATEMENTS, where)
                if isinstance(node, ast.expr):
                    self.assertIsInstance(node, EXPRESSIONS, where)
                if isinstance(node, ast.Expr) and node is not docstring(tree):
                    self.assertIsInstance(node.value, ast.Call, where)
                if isinstance(node, ast.Assign):
                    self.assertEqual(len(node.targets), 1, where)
                if isinstance(node, (ast.For, ast.While)):
                    self.assertEqual(node.orelse, [], where)
                if isinstance(node, ast.Try):
                    self.assertEqual(node.finalbody, [], where)
                if isinstance(node, ast.ListComp):
                    self.assertEqual(len(node.generators), 1, where)
                    self.assertLessEqual(len(node.generators[0].ifs), 1, where)
                if isinstance(node, (ast.Div, ast.MatMult)):
                    self.fail(where)
                if isinstance(node, ast.BinOp) and isinstance(node.op, ast.Pow):
                    self.assertIsInstance(node.right, ast.Constant, where)
                if isinstance(node, ast.Constant):
                    self.assertNotIsInstance(node.value, (float, complex, bytes), where)
                    self.assertFalse(isinstance(node.value, str) and "%" in node.value, where)
                if isinstance(node, ast.FormattedValue):
                    self.assertIsInstance(node.value, ast.Name, where)
                    self.assertIsNone(node.format_spec, where)
                if isinstance(node, ast.Compare):
                    for sort, other in zip(node.ops, node.comparators):
                        if isinstance(sort, (ast.Is, ast.IsNot)):
                            self.assertIsInstance(other, ast.Constant, where)

    def test_functions_and_classes(self):
        for path in files():
            tree = parsed(path)
            for node in ast.walk(tree):
                if isinstance(node, ast.FunctionDef):
                    given = node.args
                    self.assertEqual((given.vararg, given.kwarg, given.kwonlyargs), (None, None, []), node.name)
                    self.assertEqual((node.decorator_list, given.posonlyargs), ([], []), node.name)
                if isinstance(node, ast.ClassDef):
                    self.assertIn(node, tree.body)
                    self.assertLessEqual(len(node.bases), 1, node.name)
                    self.assertEqual((node.decorator_list, node.keywords), ([], []), node.name)
                    for part in node.body:
                        self.assertIsInstance(part, (ast.FunctionDef, ast.Pass), node.name)

    def test_names(self):
        for path in files():
            names = list(bound(parsed(path)))
            for name in names:
                if name not in DUNDERS:
                    self.assertRegex(name, r"^[A-Za-z][A-Za-z0-9_]*$", path)
                    self.assertNotIn(name, dir(builtins), path)
                self.assertNotIn(name, NAMES_OUT, path)
            for node in ast.walk(parsed(path)):
                if isinstance(node, ast.Name) and isinstance(node.ctx, ast.Load) and node.id not in names:
                    self.assertIn(node.id, OWN_NAMES, (path.name, node.lineno))

    def test_no_local_is_called_like_a_class_or_an_import(self):
        for path in files():
            tree = parsed(path)
            taken = {name.name for node in tree.body if isinstance(node, ast.ImportFrom) for name in node.names}
            taken |= {node.name for node in tree.body if isinstance(node, ast.ClassDef)}
            for part in tree.body:
                if isinstance(part, ast.FunctionDef):
                    self.assertEqual(taken & (set(bound(part)) - {part.name}), set(), (path.name, part.name))
                if isinstance(part, ast.ClassDef):
                    for method in part.body:
                        self.assertEqual(taken & set(bound(method)), set(), (path.name, part.name))

    def test_each_name_of_a_file_is_bound_once(self):
        for path in files():
            tops = [name for part in parsed(path).body for name in (
                [part.name] if isinstance(part, (ast.FunctionDef, ast.ClassDef)) else list(bound(part)))]
            self.assertEqual(len(tops), len(set(tops)), path)

    def test_methods(self):
        own = set()
        values = set()
        for path in files():
            for node in ast.walk(parsed(path)):
                if isinstance(node, ast.ClassDef):
                    methods = [part.name for part in node.body if isinstance(part, ast.FunctionDef)]
                    self.assertEqual(len(methods), len(set(methods)), node.name)
                    own |= set(methods)
                if isinstance(node, ast.Attribute) and isinstance(node.ctx, ast.Store):
                    values.add(node.attr)
        self.assertEqual(own & values, set())
        self.assertEqual(values & VALUES_OUT, set())
        for path in files():
            nodes = list(ast.walk(parsed(path)))
            called = [node.func for node in nodes if isinstance(node, ast.Call)]
            for node in nodes:
                if isinstance(node, ast.Attribute) and node in called:
                    self.assertIn(node.attr, own | OWN_METHODS, (path.name, node.lineno))
                elif isinstance(node, ast.Attribute):
                    self.assertIn(node.attr, values, (path.name, node.lineno))

    def test_classes_are_called_or_raised_and_not_handed_on(self):
        names = {part.name for path in files() for part in parsed(path).body if isinstance(part, ast.ClassDef)}
        for path in files():
            nodes = list(ast.walk(parsed(path)))
            fitting = [node.func for node in nodes if isinstance(node, ast.Call)]
            fitting += [base for node in nodes if isinstance(node, ast.ClassDef) for base in node.bases]
            for node in nodes:
                if isinstance(node, ast.Name) and node.id in names:
                    self.assertIn(node, fitting, (path.name, node.lineno))

    def test_lists_and_dicts_of_a_files_top_are_only_read(self):
        tops = {part.targets[0].id for path in files() for part in parsed(path).body
                if isinstance(part, ast.Assign) and isinstance(part.value, (ast.List, ast.Dict))}
        for path in files():
            nodes = list(ast.walk(parsed(path)))
            fitting = [node.value for node in nodes if isinstance(node, ast.Subscript) and isinstance(node.ctx, ast.Load)]
            fitting += [node.iter for node in nodes if isinstance(node, ast.For)]
            fitting += [part for node in nodes if isinstance(node, ast.Compare) for part in node.comparators]
            for node in nodes:
                if isinstance(node, ast.Name) and isinstance(node.ctx, ast.Load) and node.id in tops:
                    self.assertIn(node, fitting, (path.name, node.lineno))


if __name__ == "__main__":
    unittest.main()
