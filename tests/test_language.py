"""The package keeps to the part of Python that it's written in: many of the rules L1 to L28, not all."""

import ast
import builtins
import pathlib
import re
import unittest

FOLDER = pathlib.Path(__file__).resolve().parent.parent / "nearsquares"
FILES = sorted(path for path in FOLDER.iterdir() if path.name != "__pycache__")

NODES = (
    ast.Module, ast.FunctionDef, ast.ClassDef, ast.arguments, ast.arg, ast.ImportFrom, ast.alias,
    ast.Assign, ast.AugAssign, ast.If, ast.While, ast.For, ast.Return, ast.Break, ast.Continue, ast.Pass,
    ast.Raise, ast.Try, ast.ExceptHandler, ast.Expr, ast.Constant, ast.List, ast.Tuple, ast.Dict,
    ast.BinOp, ast.UnaryOp, ast.BoolOp, ast.Compare, ast.IfExp, ast.Call, ast.keyword, ast.Attribute,
    ast.Subscript, ast.Slice, ast.ListComp, ast.comprehension, ast.JoinedStr, ast.FormattedValue, ast.Lambda,
    ast.Name, ast.Load, ast.Store, ast.boolop, ast.operator, ast.unaryop, ast.cmpop,
)
OWN = set("""len range enumerate zip min max sum abs sorted reversed int str bool list tuple dict set frozenset
    isinstance ord repr any all divmod Exception ValueError TypeError KeyError IndexError LookupError
    ZeroDivisionError ArithmeticError OverflowError RuntimeError NotImplementedError AttributeError
    StopIteration""".split())
METHODS = set("""append clear copy count endswith extend find get index insert isalnum isalpha isdigit islower
    isspace isupper items join keys ljust lower lstrip partition pop remove replace reverse rfind rjust
    rpartition rsplit rstrip setdefault split splitlines startswith strip update upper values zfill
    bit_length""".split())
UNUSED = set("""register mro elements open input version_info with_traceback add_note attrgetter breakpoint
    builtins compile copyright credits delattr dir eval exec exit gc getattr globals hasattr help id importlib
    license locals methodcaller os quit setattr super type vars sys __name__""".split())
WORDS = r"\b(type|typing|typing_extensions|enum|Enum|IntEnum|StrEnum|Flag|IntFlag|Generic|Protocol|ABC|ABCMeta" \
    r"|namedtuple|NamedTuple|TypedDict|TYPE_CHECKING|abstractmethod)\b|dataclass|overload|contextmanager"
WALKED = {"zip", "enumerate", "reversed", "range", "items", "keys", "values"}


def trees():
    return [(path, ast.parse(path.read_text("utf-8"))) for path in FILES]


def functions(tree):
    return [node for node in ast.walk(tree) if isinstance(node, ast.FunctionDef)]


def bound(tree):
    """All names that are bound anywhere in the file."""
    names = [node.id for node in ast.walk(tree) if isinstance(node, ast.Name) and isinstance(node.ctx, ast.Store)]
    names += [node.arg for node in ast.walk(tree) if isinstance(node, ast.arg)]
    names += [node.name for node in ast.walk(tree) if isinstance(node, (ast.FunctionDef, ast.ClassDef))]
    names += [name.asname or name.name for node in ast.walk(tree) if isinstance(node, ast.ImportFrom)
              for name in node.names]
    return names


class Files(unittest.TestCase):
    def test_names_and_signs(self):
        self.assertIn("__init__.py", [path.name for path in FILES])
        for path in FILES:
            self.assertRegex(path.name, r"^(__init__|[a-z][a-z0-9_]*)\.py$")
            self.assertNotIn(path.stem, dir(builtins))
            self.assertFalse(re.match(r"test|site|conftest|sitecustomize|usercustomize", path.stem))
            text = path.read_bytes()
            self.assertTrue(all(sign == 10 or 32 <= sign <= 126 for sign in text), path)
            self.assertIsNone(re.search(WORDS, text.decode()), path)

    def test_sizes(self):
        for path, tree in trees():
            rows = path.read_text("utf-8").split("\n")
            self.assertLessEqual(len(rows), 400, path)
            self.assertLessEqual(max(len(row) for row in rows), 120, path)
            for node in functions(tree):
                self.assertLessEqual(node.end_lineno - node.lineno + 1, 40, (path, node.name))

    def test_imports(self):
        drawn = {}
        tops = {path.stem: tree for path, tree in trees()}
        for path, tree in trees():
            rows = [node for node in ast.walk(tree) if isinstance(node, ast.ImportFrom)]
            self.assertTrue(all(node in tree.body and node.level == 0 for node in rows), path)
            drawn[path.stem] = set()
            for node in rows:
                package, stem = node.module.split(".")
                self.assertEqual(package, "nearsquares")
                drawn[path.stem].add(stem)
                defined = [item.name for item in tops[stem].body if isinstance(item, (ast.FunctionDef, ast.ClassDef))]
                defined += [item.targets[0].id for item in tops[stem].body if isinstance(item, ast.Assign)]
                for name in node.names:
                    self.assertIn(name.name, defined, path)
                    self.assertIsNone(name.asname)
        # Files that draw from none left are taken away; where none is left, no two draw from one another.
        while drawn:
            free = [stem for stem, others in drawn.items() if not others & set(drawn)]
            self.assertTrue(free, drawn)
            for stem in free:
                del drawn[stem]


class Language(unittest.TestCase):
    def test_parts_of_the_language(self):
        for path, tree in trees():
            for node in ast.walk(tree):
                where = (path.name, getattr(node, "lineno", 0), type(node).__name__)
                self.assertIsInstance(node, NODES, where)
                self.assertNotIsInstance(node, (ast.Div, ast.MatMult), where)
                if isinstance(node, ast.Constant):
                    self.assertIsInstance(node.value, (int, str, type(None)), where)
                if isinstance(node, ast.Assign):
                    self.assertEqual(len(node.targets), 1, where)
                    self.assertNotIsInstance(node.targets[0], (ast.Tuple, ast.List), where)
                if isinstance(node, (ast.For, ast.While)):
                    self.assertEqual(node.orelse, [], where)
                if isinstance(node, ast.Pow):
                    self.fail(where)
                if isinstance(node, ast.ListComp):
                    self.assertEqual(len(node.generators), 1, where)
                    self.assertLessEqual(len(node.generators[0].ifs), 1, where)
                if isinstance(node, ast.Compare):
                    for sign, other in zip(node.ops, node.comparators):
                        if isinstance(sign, (ast.Is, ast.IsNot)):
                            self.assertIsInstance(other, ast.Constant, where)

    def test_functions_and_classes(self):
        for path, tree in trees():
            for node in functions(tree):
                self.assertEqual(node.decorator_list, [], path)
                self.assertIsNone(node.returns)
                self.assertIsNone(node.args.vararg)
                self.assertIsNone(node.args.kwarg)
                self.assertEqual(node.args.kwonlyargs + node.args.posonlyargs, [])
                self.assertTrue(all(one.annotation is None for one in node.args.args))
            for node in ast.walk(tree):
                if isinstance(node, ast.ClassDef):
                    self.assertIn(node, tree.body)
                    self.assertEqual(node.decorator_list + node.keywords, [])
                    self.assertLessEqual(len(node.bases), 1)
                    for item in node.body:
                        self.assertIsInstance(item, (ast.FunctionDef, ast.Expr))

    def test_no_name_is_a_method_and_a_value(self):
        methods, values = set(), set()
        for path, tree in trees():
            for node in ast.walk(tree):
                if isinstance(node, ast.ClassDef):
                    methods |= {item.name for item in node.body if isinstance(item, ast.FunctionDef)}
                if isinstance(node, ast.Attribute) and isinstance(node.ctx, ast.Store):
                    values.add(node.attr)
        self.assertEqual(methods & values, set())
        for name in (methods | values) - {"__init__"}:
            for value in ("", 1, [], {}, set(), b""):
                self.assertFalse(hasattr(value, name), name)

    def test_names(self):
        for path, tree in trees():
            names = bound(tree)
            for name in names:
                if name != "__init__":
                    self.assertRegex(name, r"^[A-Za-z][A-Za-z0-9_]*$")
                self.assertNotIn(name, dir(builtins), path)
            for node in ast.walk(tree):
                if isinstance(node, ast.Name):
                    self.assertNotIn(node.id, UNUSED, path)
                    self.assertTrue(node.id in names or node.id in OWN, (path, node.id))
                if isinstance(node, ast.Attribute):
                    self.assertNotIn(node.attr, UNUSED | {"format", "format_map"}, path)

    def test_each_top_name_once_and_not_again_within(self):
        for path, tree in trees():
            tops, fixed = [], []
            for node in tree.body:
                self.assertIsInstance(node, (ast.Expr, ast.ImportFrom, ast.FunctionDef, ast.ClassDef, ast.Assign))
                if isinstance(node, ast.ImportFrom):
                    tops += [name.name for name in node.names]
                    fixed += [name.name for name in node.names]
                elif isinstance(node, ast.Assign):
                    tops.append(node.targets[0].id)
                elif not isinstance(node, ast.Expr):
                    tops.append(node.name)
                    fixed += [node.name] if isinstance(node, ast.ClassDef) else []
            self.assertEqual(len(tops), len(set(tops)), path)
            for node in functions(tree):
                inner = bound(ast.Module(node.body + [node.args], []))
                self.assertEqual(set(inner) & set(fixed), set(), (path, node.name))

    def test_lists_and_dicts_at_the_top_are_read_alone(self):
        kept = {node.targets[0].id for path, tree in trees() for node in tree.body
                if isinstance(node, ast.Assign) and isinstance(node.value, (ast.List, ast.Dict))}
        self.assertIn("MOVE_CALLS", kept)
        for path, tree in trees():
            for node in tree.body:
                if isinstance(node, ast.Assign):
                    inner = [item for item in ast.walk(node.value) if isinstance(item, (ast.List, ast.Dict))]
                    self.assertTrue(all(item is node.value for item in inner), path)
            # An index that is read, or the right side of an `in`.
            read = [node.value for node in ast.walk(tree)
                    if isinstance(node, ast.Subscript) and isinstance(node.ctx, ast.Load)]
            for node in ast.walk(tree):
                if isinstance(node, ast.Compare) and isinstance(node.ops[0], (ast.In, ast.NotIn)):
                    read.append(node.comparators[0])
            for function in functions(tree):
                for node in ast.walk(function):
                    if isinstance(node, ast.Name) and node.id in kept:
                        self.assertIn(node, read, (path, node.lineno))

    def test_keywords_and_lambdas(self):
        allowed = {"sorted": ("key", "reverse"), "min": ("key", "default"), "max": ("key", "default"),
                   "sum": ("start",), "enumerate": ("start",), "zip": ("strict",)}
        for path, tree in trees():
            for node in ast.walk(tree):
                if isinstance(node, ast.Call):
                    for word in node.keywords:
                        self.assertIn(word.arg, allowed.get(getattr(node.func, "id", None), ()), (path, node.lineno))
            rows = [node.lineno for node in ast.walk(tree) if isinstance(node, ast.Lambda)]
            self.assertEqual(len(rows), len(set(rows)), path)

    def test_texts_sets_and_init(self):
        for path, tree in trees():
            for node in ast.walk(tree):
                if isinstance(node, ast.Constant) and isinstance(node.value, str):
                    self.assertNotIn("%", node.value, path)
                if isinstance(node, ast.Name):
                    self.assertNotIn(node.id, ("set", "frozenset"), path)
                if isinstance(node, ast.FunctionDef) and node.name == "__init__":
                    self.assertFalse(any(isinstance(item, ast.Return) for item in ast.walk(node)), path)

    def test_methods_of_pythons_own_values(self):
        own = {item.name for path, tree in trees() for node in tree.body if isinstance(node, ast.ClassDef)
               for item in node.body if isinstance(item, ast.FunctionDef)}
        for path, tree in trees():
            for node in ast.walk(tree):
                if isinstance(node, ast.Call) and isinstance(node.func, ast.Attribute):
                    self.assertIn(node.func.attr, METHODS | own, path)

    def test_what_is_walked_is_walked_at_once(self):
        for path, tree in trees():
            walked = [node.iter for node in ast.walk(tree) if isinstance(node, (ast.For, ast.comprehension))]
            for node in ast.walk(tree):
                if isinstance(node, ast.Call):
                    name = getattr(node.func, "id", getattr(node.func, "attr", None))
                    if name in WALKED:
                        self.assertIn(node, walked, (path, node.lineno))


if __name__ == "__main__":
    unittest.main()
