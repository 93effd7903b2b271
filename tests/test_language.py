"""The package keeps to its part of the language, as far as the form of the code shows it."""

import ast
import builtins
import pathlib
import re
import unittest

PACKAGE = pathlib.Path(__file__).resolve().parent.parent / "tablerules"
FILES = sorted(PACKAGE.rglob("*.py"))
ERRORS = ("Exception", "ValueError", "TypeError", "KeyError", "IndexError", "LookupError", "ZeroDivisionError",
          "ArithmeticError", "OverflowError", "RuntimeError", "NotImplementedError", "AttributeError",
          "StopIteration")
BUILTINS = ERRORS + (
    "len", "range", "enumerate", "zip", "min", "max", "sum", "abs", "sorted", "reversed", "int", "str", "bool",
    "list", "tuple", "dict", "set", "frozenset", "isinstance", "ord", "repr", "any", "all", "divmod")
METHODS = (
    "append clear copy count endswith extend find get index insert isalnum isalpha isdigit islower isspace isupper "
    "items join keys ljust lower lstrip partition pop remove replace reverse rfind rjust rpartition rsplit rstrip "
    "setdefault split splitlines startswith strip update upper values zfill bit_length").split()
NODES = (
    "Module Expr Constant ImportFrom alias FunctionDef arguments arg ClassDef Assign AugAssign If While For Return "
    "Break Continue Pass Raise Try ExceptHandler Call keyword Name Attribute Subscript Slice List Tuple Dict BinOp "
    "UnaryOp BoolOp Compare IfExp ListComp comprehension Lambda JoinedStr FormattedValue Load Store And Or Not USub "
    "Add Sub Mult FloorDiv Mod Pow BitAnd BitOr BitXor Invert LShift RShift Eq NotEq Lt LtE Gt GtE Is IsNot In "
    "NotIn").split()
WORDS = ("type typing typing_extensions enum Enum IntEnum StrEnum Flag IntFlag Generic Protocol ABC ABCMeta "
         "namedtuple NamedTuple TypedDict TYPE_CHECKING abstractmethod").split()
BARRED = ("register mro elements open input version_info with_traceback add_note format format_map attrgetter "
          "breakpoint builtins compile copyright credits delattr dir eval exec exit gc getattr globals hasattr help id "
          "importlib license locals methodcaller os quit setattr super type vars sys chr print").split()
BARRED_VALUES = ("items keys values pop update append clear extend insert remove reverse setdefault sort args encode "
                 "format").split()


def trees():
    return [(path.name, ast.parse(path.read_text())) for path in FILES]


def nodes(kind):
    return [(name, node) for name, tree in trees() for node in ast.walk(tree) if isinstance(node, kind)]


class Files(unittest.TestCase):
    def test_nothing_else_lies_in_the_package(self):
        others = [path for path in PACKAGE.iterdir() if path not in FILES and path.name != "__pycache__"]
        self.assertEqual(others, [])
        for path in FILES:
            self.assertRegex(path.name, r"^([a-z][a-z0-9_]*|__init__)\.py$")
            self.assertTrue(path.stem == "__init__" or not hasattr(builtins, path.stem), path.name)

    def test_signs_and_sizes(self):
        for path in FILES:
            text = path.read_bytes().decode("ascii")
            self.assertEqual([sign for sign in text if sign != "\n" and not " " <= sign <= "~"], [], path.name)
            self.assertLessEqual(len(text.splitlines()), 400, path.name)
            self.assertLessEqual(max(len(line) for line in text.splitlines()), 120, path.name)

    def test_words_that_stand_nowhere(self):
        for path in FILES:
            text = path.read_text()
            found = [word for word in WORDS if re.search(rf"\b{word}\b", text)]
            found += [word for word in ("dataclass", "overload", "contextmanager") if word in text]
            self.assertEqual(found, [], path.name)


class Code(unittest.TestCase):
    def test_statements_and_expressions(self):
        for name, node in nodes(ast.AST):
            self.assertIn(type(node).__name__, NODES, name)

    def test_values(self):
        for name, node in nodes(ast.Constant):
            self.assertIn(type(node.value), (int, str, bool, type(None)), name)
            if isinstance(node.value, str):
                self.assertNotIn("%", node.value, name)

    def test_imports(self):
        drawn = {}
        for name, node in nodes(ast.ImportFrom):
            self.assertEqual(node.level, 0, name)
            self.assertTrue(node.module.startswith("tablerules."), name)
            source = node.module.split(".")[1]
            tree = ast.parse((PACKAGE / f"{source}.py").read_text())
            bound = [top.name for top in tree.body if isinstance(top, (ast.FunctionDef, ast.ClassDef))]
            bound += [top.targets[0].id for top in tree.body if isinstance(top, ast.Assign)]
            for part in node.names:
                self.assertIn(part.name, bound, name)
                self.assertIsNone(part.asname, name)
            drawn.setdefault(name[:-3], []).append(source)
        for start in drawn:
            reached = list(drawn[start])
            for source in reached:
                reached.extend(more for more in drawn.get(source, []) if more not in reached)
            self.assertNotIn(start, reached)

    def test_the_top_of_a_file(self):
        for name, tree in trees():
            self.assertIsNotNone(ast.get_docstring(tree), name)
            bound = []
            for node in tree.body[1:]:
                self.assertIn(type(node), (ast.ImportFrom, ast.FunctionDef, ast.ClassDef, ast.Assign), name)
                if isinstance(node, ast.Assign):
                    bound.append(node.targets[0].id)
                    self.assertEqual([part for part in ast.walk(node) if isinstance(part, ast.Call)], [], name)
                    inner = [part for part in ast.walk(node.value) if isinstance(part, (ast.List, ast.Dict))]
                    self.assertEqual([part for part in inner if part is not node.value], [], name)
            self.assertEqual(len(bound), len(set(bound)), name)

    def test_functions(self):
        for name, node in nodes(ast.FunctionDef):
            self.assertLessEqual(node.end_lineno - node.lineno + 1, 40, node.name)
            self.assertEqual(node.decorator_list, [], node.name)
            self.assertIsNone(node.args.vararg or node.args.kwarg, node.name)
            self.assertEqual(node.args.kwonlyargs + node.args.posonlyargs, [], node.name)

    def test_classes(self):
        for name, node in nodes(ast.ClassDef):
            self.assertEqual({type(part) for part in node.body}, {ast.FunctionDef}, node.name)
            self.assertLessEqual(len(node.bases), 1, node.name)
            self.assertEqual(node.decorator_list, [], node.name)

    def test_assignments_loops_and_tries(self):
        for name, node in nodes(ast.Assign):
            self.assertEqual(len(node.targets), 1, name)
        for name, node in nodes((ast.While, ast.For)):
            self.assertEqual(node.orelse, [], name)
        for name, node in nodes(ast.Try):
            self.assertEqual(node.finalbody, [], name)
        own = [node.name for name, node in nodes(ast.ClassDef) if node.bases and node.bases[0].id in ERRORS]
        for name, node in nodes(ast.ExceptHandler):
            for error in node.type.elts if isinstance(node.type, ast.Tuple) else [node.type]:
                self.assertIn(error.id, own, name)
        for name, node in nodes(ast.Raise):
            self.assertIsInstance(node.exc, ast.Call, name)
            self.assertIn(node.exc.func.id, own, name)
            if node.cause is not None:
                self.assertIsNone(node.cause.value, name)

    def test_is_stands_beside_none_true_and_false(self):
        for name, node in nodes(ast.Compare):
            if isinstance(node.ops[0], (ast.Is, ast.IsNot)):
                self.assertIn(node.comparators[0].value, (None, True, False), name)

    def test_names(self):
        for name, tree in trees():
            drawn = [part.name for node in ast.walk(tree) if isinstance(node, ast.ImportFrom) for part in node.names]
            classes = [node.name for node in ast.walk(tree) if isinstance(node, ast.ClassDef)]
            stored = [node.arg for node in ast.walk(tree) if isinstance(node, ast.arg)]
            stored += [node.id for node in ast.walk(tree)
                       if isinstance(node, ast.Name) and isinstance(node.ctx, ast.Store)]
            for word in stored:
                self.assertRegex(word, r"^[A-Za-z][A-Za-z0-9_]*$", name)
                self.assertFalse(hasattr(builtins, word), (name, word))
                self.assertNotIn(word, drawn + classes + BARRED, name)
            loaded = [node.id for node in ast.walk(tree) if isinstance(node, ast.Name)]
            for word in loaded:
                self.assertNotIn(word, BARRED, name)
                self.assertTrue(word in BUILTINS or not hasattr(builtins, word), (name, word))

    def test_methods_and_values(self):
        own = [node.name for name, node in nodes(ast.FunctionDef)]
        python = {word for kind in (str, int, list, dict, set, bytes, tuple) for word in dir(kind)}
        values = [node.attr for name, node in nodes(ast.Attribute) if isinstance(node.ctx, ast.Store)]
        methods = [part.name for name, node in nodes(ast.ClassDef) for part in node.body
                   if isinstance(part, ast.FunctionDef)]
        self.assertEqual([word for word in values if word in methods], [])
        for word in values:
            self.assertNotIn(word, BARRED + BARRED_VALUES)
            self.assertNotIn(word, python)
        for word in methods:
            self.assertTrue(word not in python or word == "__init__", word)
        called = [(name, node.func.attr) for name, node in nodes(ast.Call) if isinstance(node.func, ast.Attribute)]
        for name, word in called:
            self.assertTrue(word in METHODS or word in own, (name, word))


if __name__ == "__main__":
    unittest.main()
