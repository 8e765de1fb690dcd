"""The package keeps to the part of Python that it is written in, as far as a plain test can see it."""

import ast
import builtins
import pathlib
import re
import unittest

PACKAGE = pathlib.Path(__file__).resolve().parent.parent / "treeworkers"
FILES = sorted(PACKAGE.rglob("*.py"))

OWN_NAMES = set("""len range enumerate zip min max sum abs sorted reversed int str bool list tuple dict set frozenset
isinstance ord repr any all divmod Exception ValueError TypeError KeyError IndexError LookupError ZeroDivisionError
ArithmeticError OverflowError RuntimeError NotImplementedError AttributeError StopIteration""".split())

OWN_METHODS = set("""append clear copy count endswith extend find get index insert isalnum isalpha isdigit islower isspace
isupper items join keys ljust lower lstrip partition pop remove replace reverse rfind rjust rpartition rsplit rstrip
setdefault split splitlines startswith strip update upper values zfill bit_length""".split())

STATEMENTS = (ast.Assign, ast.AugAssign, ast.If, ast.While, ast.For, ast.Return, ast.Break, ast.Continue, ast.Pass,
              ast.Raise, ast.Try, ast.Expr, ast.FunctionDef, ast.ClassDef, ast.ImportFrom)

EXPRESSIONS = (ast.Constant, ast.List, ast.Tuple, ast.Dict, ast.BinOp, ast.UnaryOp, ast.Compare, ast.BoolOp, ast.IfExp,
               ast.Call, ast.Attribute, ast.Subscript, ast.Slice, ast.ListComp, ast.Name, ast.Lambda)

BANNED_WORDS = re.compile(
    r"\b(type|typing|typing_extensions|enum|Enum|IntEnum|StrEnum|Flag|IntFlag|Generic|Protocol|ABC|ABCMeta|namedtuple|"
    r"NamedTuple|TypedDict|TYPE_CHECKING|abstractmethod)\b|dataclass|overload|contextmanager")

BANNED_NAMES = set("""register mro elements open input version_info with_traceback add_note attrgetter breakpoint builtins
compile copyright credits delattr dir eval exec exit gc getattr globals hasattr help id importlib license locals
methodcaller os quit setattr super type vars sys format format_map chr print args""".split())

BANNED_FILES = {"test", "tests", "testing", "site", "conftest", "sitecustomize", "usercustomize"} | set(dir(builtins))


def source(path):
    return path.read_text(encoding="utf-8")


def nodes(path):
    return list(ast.walk(ast.parse(source(path))))


def module_name(path):
    parts = ("treeworkers",) + path.relative_to(PACKAGE).with_suffix("").parts
    return ".".join(parts[:-1] if parts[-1] == "__init__" else parts)


def bound_names(tree_nodes):
    found = set()
    for node in tree_nodes:
        if isinstance(node, ast.Name) and isinstance(node.ctx, ast.Store):
            found.add(node.id)
        elif isinstance(node, ast.arg):
            found.add(node.arg)
        elif isinstance(node, ast.ExceptHandler) and node.name:
            found.add(node.name)
    return found


class Files(unittest.TestCase):
    def test_only_plain_files(self):
        for path in PACKAGE.rglob("*"):
            if "__pycache__" not in path.parts:
                self.assertTrue(path.is_file() and re.fullmatch(r"[a-z0-9_]+\.py", path.name), path)
                self.assertNotIn(path.stem, BANNED_FILES)
                self.assertFalse(path.stem.startswith("test_"), path)
        self.assertTrue((PACKAGE / "__init__.py").is_file())
        self.assertIn(PACKAGE / "desk.py", FILES)

    def test_sizes(self):
        for path in FILES:
            rows = source(path).split("\n")
            self.assertLessEqual(len(rows) - 1, 400, path)
            for number, row in enumerate(rows, start=1):
                self.assertLessEqual(len(row), 120, (path, number))
            for node in nodes(path):
                if isinstance(node, ast.FunctionDef):
                    self.assertLessEqual(node.end_lineno - node.lineno + 1, 40, (path, node.name))

    def test_signs_and_words(self):
        for path in FILES:
            text = source(path)
            self.assertTrue(all(sign == "\n" or " " <= sign <= "~" for sign in text), path)
            self.assertIsNone(BANNED_WORDS.search(text), path)

    def test_texts(self):
        for path in FILES:
            for node in nodes(path):
                if isinstance(node, ast.Constant) and isinstance(node.value, str):
                    self.assertNotIn("%", node.value, (path, node.lineno))


class Imports(unittest.TestCase):
    def drawn(self, path):
        """What a file imports: for each file it draws from the names."""
        found = {}
        for node in nodes(path):
            self.assertNotIsInstance(node, ast.Import, path)
            if isinstance(node, ast.ImportFrom):
                found.setdefault(node.module, []).extend(node.names)
                self.assertEqual(node.level, 0, path)
        return found

    def test_only_own_modules_by_their_full_names(self):
        modules = {module_name(path): path for path in FILES}
        for path in FILES:
            for module, names in self.drawn(path).items():
                self.assertIn(module, modules, path)
                defined = self.defined(modules[module])
                for alias in names:
                    self.assertIn(alias.name, defined, (path, module))
                    self.assertIsNone(alias.asname, path)

    def defined(self, path):
        found = set()
        for node in ast.parse(source(path)).body:
            if isinstance(node, (ast.FunctionDef, ast.ClassDef)):
                found.add(node.name)
            elif isinstance(node, ast.Assign):
                found.add(node.targets[0].id)
        return found

    def test_imports_stand_at_the_top(self):
        for path in FILES:
            body = ast.parse(source(path)).body
            kinds = [isinstance(node, ast.ImportFrom) for node in body]
            self.assertIsInstance(ast.get_docstring(ast.parse(source(path))), str, path)
            count = sum(kinds)
            self.assertTrue(all(kinds[1:1 + count]), path)
            self.assertEqual(count, sum(isinstance(node, ast.ImportFrom) for node in nodes(path)), path)

    def test_everything_imported_is_used(self):
        for path in FILES:
            used = {node.id for node in nodes(path) if isinstance(node, ast.Name)}
            for names in self.drawn(path).values():
                for alias in names:
                    self.assertIn(alias.name, used, path)

    def test_no_two_files_draw_from_one_another(self):
        draws = {module_name(path): set(self.drawn(path)) for path in FILES}
        for module, drawn in draws.items():
            if drawn:
                drawn.add("treeworkers")
        settled = set()
        while True:
            free = {module for module, drawn in draws.items() if module not in settled and drawn <= settled}
            if not free:
                break
            settled |= free
        self.assertEqual(settled, set(draws))


class Statements(unittest.TestCase):
    def test_kinds_of_statements_and_expressions(self):
        for path in FILES:
            for node in nodes(path):
                if isinstance(node, ast.stmt):
                    self.assertIsInstance(node, STATEMENTS, (path, node.lineno))
                elif isinstance(node, ast.expr):
                    self.assertIsInstance(node, EXPRESSIONS, (path, node.lineno))

    def test_details(self):
        for path in FILES:
            tree = ast.parse(source(path))
            for node in ast.walk(tree):
                spot = (path, getattr(node, "lineno", 0))
                if isinstance(node, ast.Assign):
                    self.assertEqual(len(node.targets), 1, spot)
                elif isinstance(node, (ast.For, ast.While)):
                    self.assertEqual(node.orelse, [], spot)
                elif isinstance(node, ast.Try):
                    self.assertEqual(node.finalbody, [], spot)
                elif isinstance(node, ast.ListComp):
                    self.assertEqual(len(node.generators), 1, spot)
                    self.assertLessEqual(len(node.generators[0].ifs), 1, spot)
                elif isinstance(node, (ast.FunctionDef, ast.ClassDef)):
                    self.assertEqual(node.decorator_list, [], spot)
                elif isinstance(node, ast.BinOp):
                    self.assertNotIsInstance(node.op, (ast.Div, ast.MatMult, ast.Pow), spot)
                elif isinstance(node, ast.Compare) and any(isinstance(op, (ast.Is, ast.IsNot)) for op in node.ops):
                    self.assertIsInstance(node.comparators[0], ast.Constant, spot)
                elif isinstance(node, ast.Constant):
                    self.assertIn(type(node.value), (int, str, bool, type(None)), spot)
                elif isinstance(node, ast.Expr):
                    docstring = node is tree.body[0]
                    self.assertTrue(docstring or isinstance(node.value, ast.Call), spot)

    def test_parameters(self):
        for path in FILES:
            for node in nodes(path):
                if isinstance(node, (ast.FunctionDef, ast.Lambda)):
                    given = node.args
                    self.assertEqual((given.vararg, given.kwarg, given.kwonlyargs, given.posonlyargs),
                                     (None, None, [], []), path)


class Names(unittest.TestCase):
    def test_plain_names(self):
        for path in FILES:
            found = nodes(path)
            names = bound_names(found) | {node.name for node in found if isinstance(node, (ast.FunctionDef, ast.ClassDef))}
            names |= {node.attr for node in found if isinstance(node, ast.Attribute)}
            for name in names - {"__init__"}:
                self.assertRegex(name, r"\A[A-Za-z][A-Za-z0-9_]*\Z", path)
                self.assertNotIn(name, BANNED_NAMES, path)

    def test_only_the_listed_names_of_pythons_own(self):
        for path in FILES:
            found = nodes(path)
            defined = bound_names(found) | {node.name for node in found
                                            if isinstance(node, (ast.FunctionDef, ast.ClassDef))}
            for names in [node.names for node in found if isinstance(node, ast.ImportFrom)]:
                defined |= {alias.name for alias in names}
            for node in found:
                if isinstance(node, ast.Name) and node.id not in defined:
                    self.assertIn(node.id, OWN_NAMES, (path, node.lineno))
            self.assertEqual(defined & set(dir(builtins)), set(), path)

    def test_names_at_the_top_are_bound_once_and_not_again_below(self):
        for path in FILES:
            body = ast.parse(source(path)).body
            top, fixed = [], []
            for node in body:
                if isinstance(node, ast.Assign):
                    top.append(node.targets[0].id)
                elif isinstance(node, (ast.FunctionDef, ast.ClassDef)):
                    top.append(node.name)
                elif isinstance(node, ast.ImportFrom):
                    fixed += [alias.name for alias in node.names]
            top += fixed
            self.assertEqual(len(top), len(set(top)), path)
            for node in body:
                if isinstance(node, (ast.FunctionDef, ast.ClassDef)):
                    self.assertEqual(bound_names(list(ast.walk(node))) & set(top), set(), (path, node.name))

    def test_own_methods_and_values(self):
        pythons_own = set()
        for value in ("", 0, [], {}, set(), b"", ()):
            pythons_own |= set(dir(value))
        methods, values = set(), set()
        for path in FILES:
            for node in nodes(path):
                if isinstance(node, ast.ClassDef):
                    named = [part.name for part in node.body if isinstance(part, ast.FunctionDef)]
                    self.assertEqual(len(named), len(set(named)), (path, node.name))
                    methods |= set(named)
                elif isinstance(node, ast.Attribute) and isinstance(node.ctx, ast.Store):
                    values.add(node.attr)
        methods.discard("__init__")
        self.assertEqual(methods & values, set())
        self.assertEqual((methods | values) & pythons_own, set())
        called = set()
        for path in FILES:
            called |= {node.attr for node in nodes(path) if isinstance(node, ast.Attribute)}
        self.assertEqual(called - methods - values - OWN_METHODS, set())


if __name__ == "__main__":
    unittest.main()
