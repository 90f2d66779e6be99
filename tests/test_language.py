"""The rules of LANGUAGE.md for the package's own files, as far as a test can see them."""

import ast
import builtins
import pathlib
import re
import unittest

PACKAGE = pathlib.Path(__file__).resolve().parent.parent / "smalllisp"

OWN_NAMES = set("""len range enumerate zip min max sum abs sorted reversed int str bool list tuple dict set frozenset
    isinstance ord repr any all divmod Exception ValueError TypeError KeyError IndexError LookupError
    ZeroDivisionError ArithmeticError OverflowError RuntimeError NotImplementedError AttributeError
    StopIteration""".split())
METHODS = set("""append clear copy count endswith extend find get index insert isalnum isalpha isdigit islower isspace
    isupper items join keys ljust lower lstrip partition pop remove replace reverse rfind rjust rpartition rsplit
    rstrip setdefault split splitlines startswith strip update upper values zfill bit_length""".split())
DUNDERS = {"__init__", "__eq__", "__repr__", "__str__", "__len__"}
UNUSED_NAMES = set("""register mro elements open input version_info with_traceback add_note attrgetter breakpoint
    builtins compile copyright credits delattr dir eval exec exit gc getattr globals hasattr help id importlib
    license locals methodcaller os quit setattr super type vars sys format format_map""".split())
UNUSED_WORDS = re.compile(r"\b(type|typing|typing_extensions|enum|Enum|IntEnum|StrEnum|Flag|IntFlag|Generic|Protocol"
                          r"|ABC|ABCMeta|namedtuple|NamedTuple|TypedDict|TYPE_CHECKING|abstractmethod)\b"
                          r"|dataclass|overload|contextmanager")
STATEMENTS = (ast.Assign, ast.AugAssign, ast.If, ast.While, ast.For, ast.Return, ast.Break, ast.Continue, ast.Pass,
              ast.Raise, ast.Try, ast.Expr, ast.FunctionDef, ast.ClassDef, ast.ImportFrom)
EXPRESSIONS = (ast.Constant, ast.List, ast.Tuple, ast.Dict, ast.BinOp, ast.UnaryOp, ast.BoolOp, ast.Compare, ast.IfExp,
               ast.Call, ast.Attribute, ast.Subscript, ast.Slice, ast.ListComp, ast.Name, ast.Lambda, ast.JoinedStr,
               ast.FormattedValue)
PYTHONS_OWN = {name for kind in (str, int, list, dict, set, bytes, tuple) for name in dir(kind)}


def own_files():
    return sorted(path for path in PACKAGE.rglob("*") if "__pycache__" not in path.parts)


TREES = [(path.name, ast.parse(path.read_text())) for path in own_files()]


def nodes(kinds):
    return [(name, node) for name, tree in TREES for node in ast.walk(tree) if isinstance(node, kinds)]


def classes():
    return {node.name for name, node in nodes(ast.ClassDef)}


class Files(unittest.TestCase):
    def test_only_plain_files(self):
        for path in own_files():
            with self.subTest(path=path.name):
                self.assertRegex(path.name, r"^([a-z][a-z0-9_]*|__init__)\.py$")
                self.assertFalse(path.stem != "__init__" and hasattr(builtins, path.stem))
                self.assertFalse(path.stem.startswith(("test", "site", "conftest")))
        self.assertIn("__init__.py", [path.name for path in own_files()])

    def test_sizes_and_signs(self):
        for path in own_files():
            text = path.read_text()
            with self.subTest(path=path.name):
                self.assertRegex(text, r"\A[ -~\n]*\Z")
                self.assertLessEqual(len(text.splitlines()), 400)
                self.assertLessEqual(max(map(len, text.splitlines())), 120)
                self.assertIsNone(UNUSED_WORDS.search(text))

    def test_functions_are_short(self):
        for name, node in nodes((ast.FunctionDef, ast.Lambda)):
            with self.subTest(file=name, line=node.lineno):
                self.assertLessEqual(node.end_lineno - node.lineno + 1, 40)


class Tops(unittest.TestCase):
    def test_what_stands_there(self):
        for name, tree in TREES:
            for node in tree.body[1:]:
                with self.subTest(file=name, line=node.lineno):
                    self.assertIsInstance(node, (ast.ImportFrom, ast.FunctionDef, ast.ClassDef, ast.Assign))
                    if isinstance(node, ast.Assign):
                        self.assert_plain(node.value, tree)
            self.assertIsNotNone(ast.get_docstring(tree))

    def assert_plain(self, value, tree):
        functions = {node.name for node in tree.body if isinstance(node, ast.FunctionDef)}
        for node in ast.walk(value):
            self.assertIsInstance(node, (ast.Constant, ast.Tuple, ast.List, ast.Dict, ast.UnaryOp, ast.USub, ast.Name,
                                         ast.Load))
            if isinstance(node, ast.Name):
                self.assertIn(node.id, functions)
            if isinstance(node, (ast.List, ast.Dict)):
                self.assertIs(node, value)

    def test_each_name_once(self):
        for name, tree in TREES:
            bound = []
            for node in tree.body:
                if isinstance(node, ast.ImportFrom):
                    bound += [alias.asname or alias.name for alias in node.names]
                elif isinstance(node, (ast.FunctionDef, ast.ClassDef)):
                    bound.append(node.name)
                elif isinstance(node, ast.Assign):
                    bound.append(node.targets[0].id)
            with self.subTest(file=name):
                self.assertEqual(len(bound), len(set(bound)))

    def test_imports(self):
        drawn = {}
        for name, node in nodes(ast.ImportFrom):
            with self.subTest(file=name, line=node.lineno):
                self.assertEqual(node.level, 0)
                self.assertRegex(node.module, r"^smalllisp\.[a-z]+$")
                source = dict(TREES)[node.module.split(".")[1] + ".py"]
                defined = {n.name for n in source.body if isinstance(n, (ast.FunctionDef, ast.ClassDef))}
                defined |= {n.targets[0].id for n in source.body if isinstance(n, ast.Assign)}
                self.assertLessEqual({alias.name for alias in node.names}, defined)
                self.assertEqual([alias.asname for alias in node.names if alias.asname], [])
            drawn.setdefault(name, set()).add(node.module.split(".")[1] + ".py")
        for name in drawn:
            with self.subTest(file=name):
                self.assertNotIn(name, self.all_drawn(name, drawn))
        self.assertNotIn("__init__.py", drawn)

    def all_drawn(self, name, drawn):
        found = set()
        ahead = list(drawn.get(name, ()))
        while ahead:
            other = ahead.pop()
            if other not in found:
                found.add(other)
                ahead += drawn.get(other, ())
        return found

    def test_every_import_is_used(self):
        for name, tree in TREES:
            used = {node.id for node in ast.walk(tree) if isinstance(node, ast.Name)}
            for node in tree.body:
                if isinstance(node, ast.ImportFrom):
                    with self.subTest(file=name, line=node.lineno):
                        self.assertLessEqual({alias.name for alias in node.names}, used)


class Code(unittest.TestCase):
    def test_statements(self):
        for name, node in nodes(ast.stmt):
            with self.subTest(file=name, line=node.lineno):
                self.assertIsInstance(node, STATEMENTS)
                if isinstance(node, ast.Assign):
                    self.assertEqual(len(node.targets), 1)
                if isinstance(node, (ast.For, ast.While)):
                    self.assertEqual(node.orelse, [])
                if isinstance(node, ast.Try):
                    self.assertEqual(node.finalbody, [])
                    self.assertEqual([handler for handler in node.handlers if handler.type is None], [])
                if isinstance(node, ast.Expr) and not isinstance(node.value, ast.Call):
                    self.assertEqual(node.lineno, 1)

    def test_expressions(self):
        for name, node in nodes(ast.expr):
            with self.subTest(file=name, line=node.lineno):
                self.assertIsInstance(node, EXPRESSIONS)
                if isinstance(node, ast.Constant):
                    self.assertIsInstance(node.value, (int, str, bool, type(None)))
                    self.assertNotIn("%", str(node.value))
                if isinstance(node, ast.BinOp):
                    self.assertNotIsInstance(node.op, (ast.Div, ast.MatMult, ast.Pow))
                if isinstance(node, ast.ListComp):
                    self.assertEqual(len(node.generators), 1)
                    self.assertLessEqual(len(node.generators[0].ifs), 1)
                if isinstance(node, ast.Compare):
                    self.assert_is_beside_none(node)

    def assert_is_beside_none(self, node):
        sides = [node.left] + node.comparators
        for place, sign in enumerate(node.ops):
            if isinstance(sign, (ast.Is, ast.IsNot)):
                near = sides[place:place + 2]
                self.assertTrue(any(isinstance(side, ast.Constant) and side.value in (None, True, False)
                                    for side in near))

    def test_functions(self):
        for name, node in nodes(ast.FunctionDef):
            with self.subTest(file=name, line=node.lineno):
                self.assertEqual(node.decorator_list, [])
                self.assertIsNone(node.args.vararg)
                self.assertIsNone(node.args.kwarg)
                self.assertEqual(node.args.kwonlyargs + node.args.posonlyargs, [])
                self.assertIsNone(node.returns)
                self.assertEqual([argument for argument in node.args.args if argument.annotation], [])

    def test_classes(self):
        for name, node in nodes(ast.ClassDef):
            with self.subTest(file=name, line=node.lineno):
                self.assertEqual(node.decorator_list, [])
                self.assertLessEqual(len(node.bases), 1)
                self.assertEqual([base.id for base in node.bases if base.id != "Exception"], [])
                for inner in node.body:
                    self.assertIsInstance(inner, (ast.FunctionDef, ast.Pass))

    def test_classes_are_not_handed_on(self):
        allowed = set()
        for name, node in nodes((ast.Call, ast.ExceptHandler, ast.ClassDef)):
            if isinstance(node, ast.Call):
                allowed.add((name, node.func.lineno, node.func.col_offset))
                if isinstance(node.func, ast.Name) and node.func.id == "isinstance":
                    allowed.add((name, node.args[1].lineno, node.args[1].col_offset))
            elif isinstance(node, ast.ExceptHandler):
                allowed.add((name, node.type.lineno, node.type.col_offset))
            else:
                allowed |= {(name, base.lineno, base.col_offset) for base in node.bases}
        for name, node in nodes(ast.Name):
            if node.id in classes():
                with self.subTest(file=name, line=node.lineno):
                    self.assertIn((name, node.lineno, node.col_offset), allowed)


class Names(unittest.TestCase):
    def test_plain_names(self):
        for name, word, line in self.all_names():
            with self.subTest(file=name, line=line, word=word):
                self.assertNotIn(word, UNUSED_NAMES)
                if word not in DUNDERS:
                    self.assertRegex(word, r"^[A-Za-z][A-Za-z0-9_]*$")

    def all_names(self):
        found = []
        for name, node in nodes((ast.Name, ast.arg, ast.Attribute, ast.FunctionDef, ast.ClassDef)):
            for field in ["id", "arg", "attr", "name"]:
                if hasattr(node, field):
                    found.append((name, getattr(node, field), node.lineno))
        return found

    def test_pythons_own_names(self):
        for name, node in nodes(ast.Name):
            if hasattr(builtins, node.id):
                with self.subTest(file=name, line=node.lineno):
                    self.assertIn(node.id, OWN_NAMES)
                    self.assertIsInstance(node.ctx, ast.Load)
        for name, node in nodes(ast.arg):
            with self.subTest(file=name, line=node.lineno):
                self.assertFalse(hasattr(builtins, node.arg))

    def test_no_local_is_called_like_a_class_or_an_import(self):
        for name, tree in TREES:
            taken = {node.name for node in tree.body if isinstance(node, ast.ClassDef)}
            for node in tree.body:
                if isinstance(node, ast.ImportFrom):
                    taken |= {alias.name for alias in node.names}
            for node in ast.walk(tree):
                word = node.arg if isinstance(node, ast.arg) else None
                if isinstance(node, ast.Name) and isinstance(node.ctx, ast.Store):
                    word = node.id
                if word is not None:
                    with self.subTest(file=name, line=node.lineno):
                        self.assertNotIn(word, taken)

    def test_methods_and_values(self):
        for name, node in nodes(ast.Attribute):
            with self.subTest(file=name, line=node.lineno):
                if isinstance(node.ctx, ast.Store):
                    self.assertNotIn(node.attr, PYTHONS_OWN)
                if node.attr in PYTHONS_OWN:
                    self.assertIn(node.attr, METHODS)

    def test_keywords(self):
        for name, node in nodes(ast.Call):
            with self.subTest(file=name, line=node.lineno):
                self.assertLessEqual({word.arg for word in node.keywords}, {"key", "reverse", "default", "start",
                                                                           "strict"})


class Kept(unittest.TestCase):
    def test_lists_and_dicts_of_a_files_top_are_only_read(self):
        for name, tree in TREES:
            kept = {node.targets[0].id for node in tree.body
                    if isinstance(node, ast.Assign) and isinstance(node.value, (ast.List, ast.Dict))}
            read = set()
            for node in ast.walk(tree):
                if isinstance(node, ast.Subscript) and isinstance(node.ctx, ast.Load):
                    read.add(node.value)
                elif isinstance(node, ast.For):
                    read.add(node.iter)
                elif isinstance(node, ast.Compare):
                    read |= set(node.comparators)
            for node in ast.walk(tree):
                if isinstance(node, ast.Name) and node.id in kept and isinstance(node.ctx, ast.Load):
                    with self.subTest(file=name, line=node.lineno):
                        self.assertIn(node, read)

    def test_what_is_walked_at_once(self):
        walked = set()
        for name, node in nodes((ast.For, ast.comprehension)):
            walked.add((name, node.iter.lineno, node.iter.col_offset))
        for name, node in nodes(ast.Call):
            if isinstance(node.func, ast.Name) and node.func.id in ("zip", "enumerate", "reversed", "range"):
                with self.subTest(file=name, line=node.lineno):
                    self.assertIn((name, node.lineno, node.col_offset), walked)


if __name__ == "__main__":
    unittest.main()
