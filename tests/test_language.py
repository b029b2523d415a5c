"""The package's form: the rules of LANGUAGE.md that can be seen in a file's tree."""

import ast
import builtins
import pathlib
import re
import unittest

ROOT = pathlib.Path(__file__).resolve().parent.parent
PACKAGE = ROOT / "weathercode"
FILES = sorted(PACKAGE.rglob("*.py"))

NODES = """Module Expr Constant ImportFrom alias FunctionDef arguments arg ClassDef Lambda Assign AugAssign If While For
Return Break Continue Pass Raise Try ExceptHandler Call Attribute Subscript Slice Name Load Store List Tuple Dict Set
BinOp UnaryOp BoolOp Compare IfExp ListComp comprehension JoinedStr FormattedValue keyword
Add Sub Mult FloorDiv Mod Pow BitAnd BitOr BitXor LShift RShift Invert USub UAdd Not And Or
Eq NotEq Lt LtE Gt GtE Is IsNot In NotIn""".split()
OWN_NAMES = """len range enumerate zip min max sum abs sorted reversed int str bool list tuple dict set frozenset
isinstance ord repr any all divmod Exception ValueError TypeError KeyError IndexError LookupError ZeroDivisionError
ArithmeticError OverflowError RuntimeError NotImplementedError AttributeError StopIteration""".split()
METHODS = """append clear copy count endswith extend find get index insert isalnum isalpha isdigit islower isspace
isupper items join keys ljust lower lstrip partition pop remove replace reverse rfind rjust rpartition rsplit rstrip
setdefault split splitlines startswith strip update upper values zfill bit_length""".split()
NO_WORDS = """type typing typing_extensions enum Enum IntEnum StrEnum Flag IntFlag Generic Protocol ABC ABCMeta
namedtuple NamedTuple TypedDict TYPE_CHECKING abstractmethod""".split()
NO_PARTS = "dataclass overload contextmanager".split()
NO_NAMES = """register mro elements open input version_info with_traceback add_note attrgetter breakpoint compile
getattr setattr hasattr delattr os sys gc super vars locals globals dir help id exec eval format format_map""".split()


def nodes_of(tree, *kinds):
    return [node for node in ast.walk(tree) if isinstance(node, kinds)]


def bound_names(tree):
    names = [node.id for node in nodes_of(tree, ast.Name) if isinstance(node.ctx, ast.Store)]
    return names + [node.arg for node in nodes_of(tree, ast.arg)]


def imports_of(tree):
    return [(node.module, alias.name) for node in nodes_of(tree, ast.ImportFrom) for alias in node.names]


def top_names(tree):
    names = [node.name for node in tree.body if isinstance(node, (ast.FunctionDef, ast.ClassDef))]
    return names + [node.targets[0].id for node in tree.body if isinstance(node, ast.Assign)]


class Form(unittest.TestCase):
    file = "weathercode"

    def each(self):
        for path in FILES:
            text = path.read_text(encoding="utf-8")
            self.file = path.name
            yield path, text, ast.parse(text)

    def _formatMessage(self, message, standard):
        return super()._formatMessage(message, f"{self.file}: {standard}")

    def test_files(self):
        others = [path for path in PACKAGE.rglob("*") if path.suffix != ".py" and "__pycache__" not in path.parts]
        self.assertEqual(others, [])
        for path, text, tree in self.each():
            self.assertRegex(path.name, "^(__init__|[a-z][a-z0-9_]*)[.]py$")
            self.assertRegex(text, "^[ -~\n]*$")
            self.assertLessEqual(len(text.splitlines()), 400)
            self.assertLessEqual(max(map(len, text.splitlines())), 120)

    def test_words_that_stand_nowhere(self):
        for path, text, tree in self.each():
            words = re.findall("[A-Za-z0-9_]+", text)
            self.assertEqual([word for word in words if word in NO_WORDS], [])
            self.assertEqual([part for part in NO_PARTS if part in text], [])

    def test_statements_and_expressions(self):
        for path, text, tree in self.each():
            self.assertEqual({type(node).__name__ for node in ast.walk(tree)} - set(NODES), set())
            docstring = tree.body[0]
            for node in nodes_of(tree, ast.Expr):
                self.assertTrue(node is docstring or isinstance(node.value, ast.Call), node.lineno)
            for node in nodes_of(tree, ast.Constant):
                self.assertIn(type(node.value), (int, str, bool, type(None)))
                self.assertNotIn("%", str(node.value))
            for node in nodes_of(tree, ast.For, ast.While):
                self.assertEqual(node.orelse, [])
            for node in nodes_of(tree, ast.Assign):
                self.assertEqual(len(node.targets), 1)

    def test_functions_and_classes(self):
        for path, text, tree in self.each():
            for node in nodes_of(tree, ast.FunctionDef):
                self.assertLessEqual(node.end_lineno - node.lineno + 1, 40)
                self.assertIsNone(node.args.vararg or node.args.kwarg or node.returns)
                self.assertEqual(node.args.kwonlyargs + node.args.posonlyargs, [])
            for node in nodes_of(tree, ast.FunctionDef, ast.ClassDef):
                self.assertEqual(node.decorator_list, [])
            for node in nodes_of(tree, ast.ClassDef):
                self.assertIn(node, tree.body)

    def test_top_of_a_file(self):
        for path, text, tree in self.each():
            names = top_names(tree) + [name for module, name in imports_of(tree)]
            self.assertEqual(len(names), len(set(names)))
            for node in tree.body[1:]:
                self.assertIsInstance(node, (ast.ImportFrom, ast.FunctionDef, ast.ClassDef, ast.Assign))
            for node in nodes_of(tree, ast.ImportFrom):
                self.assertIn(node, tree.body)

    def test_names(self):
        for path, text, tree in self.each():
            imported = [name for module, name in imports_of(tree)]
            classes = [node.name for node in nodes_of(tree, ast.ClassDef)]
            taken = dir(builtins) + NO_NAMES
            for name in bound_names(tree):
                self.assertRegex(name, "^[A-Za-z][A-Za-z0-9_]*$")
                self.assertNotIn(name, taken + imported + classes)
            for node in nodes_of(tree, ast.Name):
                self.assertTrue(node.id not in taken or node.id in OWN_NAMES, node.id)

    def test_methods_and_values(self):
        own = []
        for path, text, tree in self.each():
            own += [node.name for cls in nodes_of(tree, ast.ClassDef) for node in nodes_of(cls, ast.FunctionDef)]
            own += [node.attr for node in nodes_of(tree, ast.Attribute) if isinstance(node.ctx, ast.Store)]
        for path, text, tree in self.each():
            for node in nodes_of(tree, ast.Attribute):
                self.assertIn(node.attr, METHODS + own)
                self.assertNotIn(node.attr, NO_NAMES)

    def test_imports(self):
        drawn = {}
        names = {}
        for path, text, tree in self.each():
            module = f"weathercode.{path.stem}"
            names[module] = top_names(tree)
            drawn[module] = imports_of(tree)
        for module, name in [pair for pairs in drawn.values() for pair in pairs]:
            self.assertIn(name, names[module])
        while drawn:
            free = [module for module, pairs in drawn.items() if not any(other in drawn for other, name in pairs)]
            self.assertNotEqual(free, [], "files that draw from one another")
            drawn = {module: pairs for module, pairs in drawn.items() if module not in free}


if __name__ == "__main__":
    unittest.main()
