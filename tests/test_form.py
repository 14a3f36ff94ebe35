"""The form of the package's files: the rules of LANGUAGE.md that a walk over the code can see."""

import ast
import builtins
import pathlib
import re
import unittest

PACKAGE = pathlib.Path(__file__).resolve().parent.parent / "textmill"
FILES = sorted(PACKAGE.glob("*.py"))

NODES = """
Module Import ImportFrom alias FunctionDef arguments arg Lambda ClassDef
Assign AugAssign If While For Return Break Continue Pass Raise Try ExceptHandler Expr
Constant List Tuple Dict BinOp UnaryOp BoolOp Compare IfExp Call Attribute Subscript Slice ListComp comprehension
JoinedStr FormattedValue Name Load Store keyword
Add Sub Mult FloorDiv Mod Pow BitOr BitXor BitAnd LShift RShift Invert Not USub UAdd And Or
Eq NotEq Lt LtE Gt GtE Is IsNot In NotIn
""".split()
OWN_NAMES = """
len range enumerate zip min max sum abs sorted reversed int str bool list tuple dict set frozenset isinstance ord
repr any all divmod Exception ValueError TypeError KeyError IndexError LookupError ZeroDivisionError ArithmeticError
OverflowError RuntimeError NotImplementedError AttributeError StopIteration
""".split()
METHODS = """
append clear copy count endswith extend find get index insert isalnum isalpha isdigit islower isspace isupper items
join keys ljust lower lstrip partition pop remove replace reverse rfind rjust rpartition rsplit rstrip setdefault split
splitlines startswith strip update upper values zfill bit_length
""".split()
NOT_ANYWHERE = """
type typing typing_extensions enum Enum IntEnum StrEnum Flag IntFlag Generic Protocol ABC ABCMeta namedtuple NamedTuple
TypedDict TYPE_CHECKING abstractmethod
""".split()
NOT_USED = """
register mro elements open input version_info with_traceback add_note format format_map attrgetter breakpoint builtins
compile copyright credits delattr dir eval exec exit gc getattr globals hasattr help id importlib license locals
methodcaller os quit setattr super type vars sys chr print
""".split()
NOT_VALUES = """
items keys values pop update append clear extend insert remove reverse setdefault sort args encode format
""".split()
PYTHONS_OWN = {name for kind in (str, int, list, dict, set, bytes, tuple) for name in dir(kind)}


def parsed(file):
    return ast.parse(file.read_text(encoding="utf-8"))


def nodes(kinds):
    """Each node of these kinds, with its file and line for a message."""
    for file in FILES:
        for node in ast.walk(parsed(file)):
            if isinstance(node, kinds):
                yield node, "{0}:{1}".format(file.name, getattr(node, "lineno", 0))


class Files(unittest.TestCase):
    def test_only_files_of_code(self):
        found = [path.name for path in PACKAGE.iterdir() if path.name != "__pycache__"]
        self.assertEqual(sorted(found), [file.name for file in FILES])
        for name in found:
            self.assertRegex(name, r"^(__init__|[a-z][a-z0-9_]*)\.py$")
            self.assertNotIn(name[:-3], dir(builtins) + NOT_USED + ["test", "tests", "testing", "site", "conftest"])

    def test_signs_and_size(self):
        for file in FILES:
            text = file.read_text(encoding="utf-8")
            self.assertRegex(text, r"^[ -~\n]*$", file.name)
            rows = text.split("\n")
            self.assertLessEqual(len(rows), 401, file.name)
            self.assertLessEqual(max(len(line) for line in rows), 120, file.name)
            for word in NOT_ANYWHERE:
                self.assertIsNone(re.search(r"\b" + word + r"\b", text), (file.name, word))
            self.assertNotRegex(text, "dataclass|overload|contextmanager")

    def test_functions_have_at_most_40_lines(self):
        for node, place in nodes(ast.FunctionDef):
            self.assertLessEqual(node.end_lineno - node.lineno + 1, 40, place)


class Language(unittest.TestCase):
    def test_kinds_of_code(self):
        for node, place in nodes(ast.AST):
            self.assertIn(node.__class__.__name__, NODES, place)

    def test_top_of_a_file(self):
        for file in FILES:
            body = parsed(file).body
            self.assertIsInstance(body[0].value.value, str)
            for node in body[1:]:
                self.assertIsInstance(node, (ast.ImportFrom, ast.FunctionDef, ast.ClassDef, ast.Assign), file.name)
            names = [node.targets[0].id for node in body if isinstance(node, ast.Assign)]
            names += [node.name for node in body if isinstance(node, (ast.FunctionDef, ast.ClassDef))]
            names += [part.name for node in body if isinstance(node, ast.ImportFrom) for part in node.names]
            self.assertEqual(len(names), len(set(names)), file.name)

    def test_imports(self):
        drawn = {}
        for file in FILES:
            drawn[file.stem] = []
            for node in ast.walk(parsed(file)):
                self.assertNotIsInstance(node, ast.Import)
                if isinstance(node, ast.ImportFrom):
                    self.assertEqual((node.level, node.module.split(".")[0]), (0, "textmill"))
                    drawn[file.stem].append(node.module.split(".")[1])
                    self.defined_there(node)
        while drawn:
            free = [name for name in drawn if not any(other in drawn for other in drawn[name])]
            self.assertTrue(free, drawn)
            for name in free:
                drawn.pop(name)

    def defined_there(self, node):
        body = parsed(PACKAGE / (node.module.split(".")[1] + ".py")).body
        names = [part.name for part in body if isinstance(part, (ast.FunctionDef, ast.ClassDef))]
        names += [part.targets[0].id for part in body if isinstance(part, ast.Assign)]
        for part in node.names:
            self.assertIn(part.name, names)
            self.assertIsNone(part.asname)

    def test_functions_and_classes(self):
        for node, place in nodes((ast.FunctionDef, ast.Lambda)):
            given = node.args
            self.assertFalse(given.vararg or given.kwarg or given.kwonlyargs or given.posonlyargs, place)
            self.assertFalse(getattr(node, "decorator_list", []), place)
        for node, place in nodes(ast.ClassDef):
            self.assertFalse(node.decorator_list or node.keywords or len(node.bases) > 1, place)
            for part in node.body:
                self.assertIsInstance(part, (ast.FunctionDef, ast.Pass), place)

    def test_statements(self):
        for node, place in nodes(ast.Assign):
            self.assertEqual(len(node.targets), 1, place)
            self.assertNotIsInstance(node.targets[0], (ast.Tuple, ast.List), place)
        for node, place in nodes((ast.For, ast.While)):
            self.assertEqual(node.orelse, [], place)
        for node, place in nodes(ast.Try):
            self.assertEqual(node.finalbody, [], place)
        for node, place in nodes(ast.ListComp):
            self.assertEqual(len(node.generators), 1, place)
            self.assertLessEqual(len(node.generators[0].ifs), 1, place)
        for node, place in nodes(ast.Expr):
            said = node.value
            self.assertTrue(isinstance(said, ast.Call) or (isinstance(said, ast.Constant) and node.lineno == 1), place)

    def test_is_beside_none_alone(self):
        for node, place in nodes(ast.Compare):
            if isinstance(node.ops[0], (ast.Is, ast.IsNot)):
                self.assertIsNone(node.comparators[0].value, place)

    def test_constants(self):
        for node, place in nodes(ast.Constant):
            self.assertIn(node.value.__class__, (int, str, bool, None.__class__), place)
            if isinstance(node.value, str):
                self.assertNotIn("%", node.value, place)

    def test_handlers(self):
        for node, place in nodes(ast.ExceptHandler):
            self.assertIsInstance(node.type, ast.Name, place)
            self.assertNotIn(node.type.id, ("Exception", "TypeError"), place)


class Named(unittest.TestCase):
    def test_names(self):
        for node, place in nodes((ast.Name, ast.arg, ast.FunctionDef, ast.ClassDef, ast.Attribute)):
            name = [getattr(node, key) for key in ("id", "arg", "name", "attr") if hasattr(node, key)][0]
            if name == "__init__":
                continue
            self.assertRegex(name, r"^[A-Za-z][A-Za-z0-9_]*$", place)
            self.assertNotIn(name, NOT_USED, place)
            bound = not isinstance(node, ast.Attribute) and not isinstance(getattr(node, "ctx", None), ast.Load)
            if bound:
                top = isinstance(node, ast.FunctionDef)
                self.assertTrue(top or name not in dir(builtins), place)
            elif isinstance(node, ast.Name) and name in dir(builtins):
                self.assertIn(name, OWN_NAMES, place)

    def test_locals_are_not_called_like_imports_or_classes(self):
        for file in FILES:
            tree = parsed(file)
            taken = [node.name for node in tree.body if isinstance(node, ast.ClassDef)]
            taken += [part.name for node in tree.body if isinstance(node, ast.ImportFrom) for part in node.names]
            for function in ast.walk(tree):
                if isinstance(function, ast.FunctionDef):
                    for node in ast.walk(function):
                        if isinstance(node, ast.arg):
                            self.assertNotIn(node.arg, taken, file.name)
                        if isinstance(node, ast.Name) and isinstance(node.ctx, ast.Store):
                            self.assertNotIn(node.id, taken, file.name)

    def test_methods_and_values(self):
        methods = {part.name for node, _ in nodes(ast.ClassDef) for part in node.body
                   if isinstance(part, ast.FunctionDef)}
        values = {node.attr for node, _ in nodes(ast.Attribute) if isinstance(node.ctx, ast.Store)}
        self.assertEqual(methods & values, set())
        self.assertEqual(values & set(NOT_VALUES), set())
        self.assertEqual((methods | values) & PYTHONS_OWN, {"__init__"})
        for node, place in nodes(ast.Call):
            if isinstance(node.func, ast.Attribute):
                self.assertIn(node.func.attr, methods | set(METHODS), place)
            self.assertEqual(node.keywords, [], place)


if __name__ == "__main__":
    unittest.main()
