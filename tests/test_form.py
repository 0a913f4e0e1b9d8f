"""What of the language's rules (L1 to L28) can be seen in the package's files by a plain look."""

import ast
import builtins
import pathlib
import re
import unittest

PACKAGE = pathlib.Path(__file__).resolve().parent.parent / "glossrows"

NODES = """Module Expr Constant Import ImportFrom alias FunctionDef arguments arg ClassDef Assign AugAssign If While For
Return Break Continue Pass Raise Try ExceptHandler Lambda Call keyword Attribute Subscript Slice List Tuple Dict Set
ListComp comprehension IfExp BoolOp BinOp UnaryOp Compare Name Load Store JoinedStr FormattedValue And Or Not USub
Invert Add Sub Mult FloorDiv Mod Pow LShift RShift BitOr BitXor BitAnd Eq NotEq Lt LtE Gt GtE Is IsNot In NotIn""".split()

BUILTINS = """len range enumerate zip min max sum abs sorted reversed int str bool list tuple dict set frozenset isinstance
ord repr any all divmod Exception ValueError TypeError KeyError IndexError LookupError ZeroDivisionError
ArithmeticError OverflowError RuntimeError NotImplementedError AttributeError StopIteration""".split()

METHODS = """append clear copy count endswith extend find get index insert isalnum isalpha isdigit islower isspace
isupper items join keys ljust lower lstrip partition pop remove replace reverse rfind rjust rpartition rsplit rstrip
setdefault split splitlines startswith strip update upper values zfill bit_length""".split()

WORDS = """type typing typing_extensions enum Enum IntEnum StrEnum Flag IntFlag Generic Protocol ABC ABCMeta namedtuple
NamedTuple TypedDict TYPE_CHECKING abstractmethod""".split()

OWN = dir(str) + dir(int) + dir(list) + dir(dict) + dir(set) + dir(bytes)


def modules():
    return sorted(path for path in PACKAGE.rglob("*") if path.is_file() and path.parent.name != "__pycache__")


def nodes(path, *kinds):
    return [node for node in ast.walk(ast.parse(path.read_text())) if not kinds or isinstance(node, kinds)]


class Form(unittest.TestCase):
    def test_files(self):
        self.assertIn("desk.py", [path.name for path in modules()])
        for path in modules():
            self.assertRegex(path.name, r"^[a-z0-9_]+\.py$")
            self.assertTrue((path.parent / "__init__.py").exists())
            self.assertNotIn(path.stem, dir(builtins) + WORDS + ["test", "tests", "testing", "site", "conftest"])

    def test_signs_and_sizes(self):
        for path in modules():
            text = path.read_text()
            self.assertRegex(text, r"\A[ -~\n]*\Z", path)
            self.assertLessEqual(len(text.splitlines()), 400, path)
            self.assertLessEqual(max(map(len, text.splitlines())), 120, path)
            for node in nodes(path, ast.FunctionDef):
                self.assertLessEqual(node.end_lineno - node.lineno + 1, 40, node.name)

    def test_words_that_stand_nowhere(self):
        for path in modules():
            found = re.findall(r"\w+", path.read_text())
            self.assertEqual([word for word in found if word in WORDS], [], path)
            self.assertNotRegex(path.read_text(), "dataclass|overload|contextmanager")

    def test_kinds_of_statements_and_expressions(self):
        for path in modules():
            for node in nodes(path):
                self.assertIn(node.__class__.__name__, NODES, (path, getattr(node, "lineno", 0)))
            for node in nodes(path, ast.Constant):
                self.assertNotIsInstance(node.value, (float, complex, bytes), (path, node.lineno))
            for node in nodes(path, ast.Assign):
                self.assertEqual(len(node.targets), 1, (path, node.lineno))
            for node in nodes(path, ast.For, ast.While, ast.Try):
                rest = node.finalbody if isinstance(node, ast.Try) else node.orelse
                self.assertEqual(rest, [], (path, node.lineno))
            for node in nodes(path, ast.FunctionDef, ast.ClassDef):
                self.assertEqual(node.decorator_list, [], (path, node.lineno))

    def test_the_top_of_a_module(self):
        plain = (ast.Constant, ast.Name, ast.List, ast.Tuple, ast.Dict, ast.UnaryOp, ast.USub, ast.Load)
        for path in modules():
            top = ast.parse(path.read_text()).body
            own = [node.name for node in top if isinstance(node, ast.FunctionDef)]
            names = [node.targets[0].id for node in top if isinstance(node, ast.Assign)]
            self.assertEqual(len(set(names + own)), len(names + own), path)
            for node in [node for node in top if isinstance(node, ast.Assign)]:
                for part in ast.walk(node.value):
                    self.assertIsInstance(part, plain, (path, node.lineno))
                    if isinstance(part, ast.Name):
                        self.assertIn(part.id, own, (path, node.lineno))

    def test_keywords(self):
        allowed = {"sorted": ["key", "reverse"], "min": ["key", "default"], "max": ["key", "default"],
                   "sum": ["start"], "enumerate": ["start"], "zip": ["strict"]}
        for path in modules():
            for node in nodes(path, ast.Call):
                for keyword in node.keywords:
                    self.assertIsInstance(node.func, ast.Name, (path, node.lineno))
                    self.assertIn(keyword.arg, allowed.get(node.func.id, []), (path, node.lineno))

    def test_one_for_in_a_comprehension(self):
        for path in modules():
            for node in nodes(path, ast.ListComp):
                self.assertEqual(len(node.generators), 1, (path, node.lineno))
                self.assertLessEqual(len(node.generators[0].ifs), 1, (path, node.lineno))

    def test_what_is_walked_at_once(self):
        """`range`, `zip` and their like stand behind an `in` or as the first thing in a call that walks them."""
        walkers = ["list", "tuple", "dict", "sorted", "sum", "any", "all", "enumerate", "zip", "min", "max"]
        for path in modules():
            walked = [node.iter for node in nodes(path, ast.For, ast.comprehension)]
            walked += [node.args[0] for node in nodes(path, ast.Call)
                       if isinstance(node.func, ast.Name) and node.func.id in walkers and node.args]
            for node in nodes(path, ast.Call):
                if isinstance(node.func, ast.Name) and node.func.id in ("range", "zip", "enumerate", "reversed"):
                    places = [(one.lineno, one.col_offset) for one in walked]
                    self.assertIn((node.lineno, node.col_offset), places, (path, node.lineno))

    def test_imports(self):
        for path in modules():
            self.assertEqual(nodes(path, ast.Import), [], path)
            top = ast.parse(path.read_text()).body
            drawn = nodes(path, ast.ImportFrom)
            self.assertEqual(len(drawn), len([node for node in top if isinstance(node, ast.ImportFrom)]), path)
            for node in drawn:
                self.assertRegex(node.module, r"^glossrows\.[a-z]+$")
                source = ast.parse((PACKAGE / (node.module.split(".")[1] + ".py")).read_text()).body
                defined = [one.name for one in source if isinstance(one, (ast.FunctionDef, ast.ClassDef))]
                defined += [one.targets[0].id for one in source if isinstance(one, ast.Assign)]
                for name in node.names:
                    self.assertIn(name.name, defined, path)
                    self.assertIsNone(name.asname, path)

    def test_names(self):
        for path in modules():
            for node in nodes(path, ast.Name):
                self.assertRegex(node.id, r"^[A-Za-z]\w*$")
                if node.id in dir(builtins):
                    self.assertIn(node.id, BUILTINS, (path, node.lineno))
                    self.assertIsInstance(node.ctx, ast.Load, (path, node.lineno))
            for node in nodes(path, ast.arg):
                self.assertRegex(node.arg, r"^[A-Za-z]\w*$")
                self.assertNotIn(node.arg, dir(builtins), (path, node.lineno))

    def test_locals_are_not_called_like_classes_or_imports(self):
        for path in modules():
            taken = [node.name for node in nodes(path, ast.ClassDef)]
            taken += [name.name for node in nodes(path, ast.ImportFrom) for name in node.names]
            given = [node.id for node in nodes(path, ast.Name) if isinstance(node.ctx, ast.Store)]
            given += [node.arg for node in nodes(path, ast.arg)]
            given += [node.name for node in nodes(path, ast.ExceptHandler)]
            self.assertEqual([name for name in given if name in taken], [], path)

    def test_methods_and_values(self):
        for path in modules():
            called = [node.func for node in nodes(path, ast.Call) if isinstance(node.func, ast.Attribute)]
            own = [node.name for node in nodes(path, ast.FunctionDef)]
            for node in called:
                self.assertTrue(node.attr in METHODS or node.attr in own, (path, node.lineno))
            for node in nodes(path, ast.Attribute):
                if isinstance(node.ctx, ast.Store):
                    self.assertNotIn(node.attr, OWN, (path, node.lineno))


if __name__ == "__main__":
    unittest.main()
