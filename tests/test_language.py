"""The package keeps to the part of Python that it is to be written in, as far as can be seen by a walk."""

import ast
import builtins
import pathlib
import re
import unittest

PACKAGE = pathlib.Path(__file__).resolve().parent.parent / "namecall"
FILES = sorted(PACKAGE.glob("*.py"))

STATEMENTS = (
    ast.Assign, ast.AugAssign, ast.If, ast.While, ast.For, ast.Return, ast.Break, ast.Continue, ast.Pass,
    ast.Raise, ast.Try, ast.Expr, ast.FunctionDef, ast.ClassDef, ast.ImportFrom,
)
EXPRESSIONS = (
    ast.Constant, ast.Name, ast.Attribute, ast.Subscript, ast.Slice, ast.Call, ast.List, ast.Tuple, ast.Dict,
    ast.BinOp, ast.UnaryOp, ast.BoolOp, ast.Compare, ast.IfExp, ast.ListComp, ast.JoinedStr, ast.FormattedValue,
    ast.Lambda,
)
BUILTINS = (
    "len range enumerate zip min max sum abs sorted reversed int str bool list tuple dict set frozenset isinstance "
    "ord repr any all divmod Exception ValueError TypeError KeyError IndexError LookupError ZeroDivisionError "
    "ArithmeticError OverflowError RuntimeError NotImplementedError AttributeError StopIteration"
).split()
METHODS = (
    "append clear copy count endswith extend find get index insert isalnum isalpha isdigit islower isspace isupper "
    "items join keys ljust lower lstrip partition pop remove replace reverse rfind rjust rpartition rsplit rstrip "
    "setdefault split splitlines startswith strip update upper values zfill bit_length"
).split()
WORDS = (
    "type typing typing_extensions enum Enum IntEnum StrEnum Flag IntFlag Generic Protocol ABC ABCMeta namedtuple "
    "NamedTuple TypedDict TYPE_CHECKING abstractmethod"
).split()


def nodes(path, kinds):
    return [node for node in ast.walk(ast.parse(path.read_text())) if isinstance(node, kinds)]


class Language(unittest.TestCase):
    def test_the_package_holds_its_modules_alone(self):
        found = {path.name for path in PACKAGE.iterdir() if path.name != "__pycache__"}
        self.assertEqual(found, {path.name for path in FILES})
        for module in ("__init__", "errors", "parts", "filling", "steps", "atonce", "together", "naming", "notes"):
            self.assertIn(module + ".py", found)

    def test_signs_lines_and_words(self):
        for path in FILES:
            text = path.read_text()
            self.assertRegex(text, r"\A[ -~\n]*\Z")
            self.assertLessEqual(len(text.splitlines()), 400, path.name)
            self.assertLessEqual(max(len(line) for line in text.splitlines()), 120, path.name)
            self.assertEqual(set(re.findall(r"\w+", text)) & set(WORDS), set(), path.name)
            for part in ("dataclass", "overload", "contextmanager"):
                self.assertNotIn(part, text)

    def test_statements_and_expressions(self):
        for path in FILES:
            for node in nodes(path, (ast.stmt, ast.expr)):
                self.assertIsInstance(node, STATEMENTS + EXPRESSIONS, path.name)
            for node in nodes(path, ast.Assign):
                self.assertEqual(len(node.targets), 1, path.name)
                self.assertIsInstance(node.targets[0], (ast.Name, ast.Attribute, ast.Subscript), path.name)
            for node in nodes(path, (ast.For, ast.While)):
                self.assertEqual(node.orelse, [], path.name)
            for node in nodes(path, ast.ListComp):
                self.assertEqual(len(node.generators), 1, path.name)
                self.assertLessEqual(len(node.generators[0].ifs), 1, path.name)
            for node in nodes(path, ast.Constant):
                self.assertIsInstance(node.value, (int, str, type(None)), path.name)
                self.assertFalse(isinstance(node.value, str) and "%" in node.value, path.name)
            self.assertEqual(nodes(path, (ast.Div, ast.MatMult)), [], path.name)
            for node in nodes(path, ast.Compare):
                if any(isinstance(kind, (ast.Is, ast.IsNot)) for kind in node.ops):
                    self.assertIn(node.comparators[-1].value, (None, True, False), path.name)

    def test_imports_are_of_the_package_and_go_one_way(self):
        drawn = {}
        for path in FILES:
            rows = nodes(path, ast.ImportFrom)
            drawn[path.stem] = [row.module.removeprefix("namecall.") for row in rows]
            for row in rows:
                self.assertEqual((row.level, row.module.split(".")[0]), (0, "namecall"))
                source = ast.parse((PACKAGE / (row.module.split(".")[1] + ".py")).read_text())
                tops = [node.name for node in source.body if hasattr(node, "name")]
                tops += [node.targets[0].id for node in source.body if isinstance(node, ast.Assign)]
                for name in row.names:
                    self.assertIn(name.name, tops)
        while drawn:
            free = [stem for stem, others in drawn.items() if not set(others) & set(drawn)]
            self.assertNotEqual(free, [], "files draw from one another")
            for stem in free:
                del drawn[stem]

    def test_functions_and_classes(self):
        for path in FILES:
            for node in nodes(path, ast.FunctionDef):
                self.assertLessEqual(node.end_lineno - node.lineno + 1, 40, node.name)
                self.assertEqual(node.decorator_list, [], node.name)
                asked = node.args
                self.assertEqual((asked.vararg, asked.kwarg, asked.kwonlyargs), (None, None, []), node.name)
            for node in nodes(path, ast.ClassDef):
                self.assertLessEqual(len(node.bases), 1, node.name)
                for row in node.body:
                    self.assertIsInstance(row, (ast.FunctionDef, ast.Pass), node.name)

    def test_names_and_methods(self):
        own = [node.name for path in FILES for node in nodes(path, ast.FunctionDef)]
        for path in FILES:
            bound = [node.arg for node in nodes(path, ast.arg)]
            for node in nodes(path, ast.Name):
                if isinstance(node.ctx, ast.Store):
                    bound.append(node.id)
                elif hasattr(builtins, node.id):
                    self.assertIn(node.id, BUILTINS, path.name)
            kept = [name.name for row in nodes(path, ast.ImportFrom) for name in row.names]
            kept += [node.name for node in nodes(path, ast.ClassDef)]
            self.assertEqual(len(kept), len(set(kept)), path.name)
            for name in [node.arg for node in nodes(path, ast.arg)] + bound:
                self.assertNotIn(name, kept, path.name)
            for name in bound:
                self.assertRegex(name, r"\A[A-Za-z][A-Za-z0-9_]*\Z", path.name)
                self.assertFalse(hasattr(builtins, name), name)
            for node in nodes(path, ast.Call):
                if isinstance(node.func, ast.Attribute):
                    self.assertIn(node.func.attr, METHODS + own, path.name)

    def test_no_name_is_a_method_here_and_a_value_there(self):
        methods = []
        values = []
        for path in FILES:
            for node in nodes(path, ast.ClassDef):
                own = [row.name for row in node.body if isinstance(row, ast.FunctionDef)]
                self.assertEqual(len(own), len(set(own)), node.name)
                methods += own
            values += [node.attr for node in nodes(path, ast.Attribute) if isinstance(node.ctx, ast.Store)]
        self.assertEqual(set(methods) & set(values), set())
        for name in methods + values:
            for value in ("", 0, [], {}, (), set(), b""):
                self.assertTrue(name == "__init__" or not hasattr(value, name), name)

    def test_what_is_walked_on_the_spot_is_not_kept(self):
        for path in FILES:
            for node in nodes(path, (ast.Assign, ast.Return)):
                if isinstance(node.value, ast.Call) and isinstance(node.value.func, ast.Name):
                    self.assertNotIn(node.value.func.id, ("zip", "enumerate", "reversed", "range", "set"), path.name)


if __name__ == "__main__":
    unittest.main()
