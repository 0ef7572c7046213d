"""That the files of the package keep those rules of LANGUAGE.md that can be seen at a glance."""

import ast
import builtins
import pathlib
import string
import unittest

import soonsaid

FOLDER = pathlib.Path(soonsaid.__file__).parent

ROWS = (ast.Assign, ast.AugAssign, ast.If, ast.While, ast.For, ast.Return, ast.Break, ast.Continue, ast.Pass,
        ast.Raise, ast.Assert, ast.Delete, ast.Expr, ast.Try, ast.FunctionDef, ast.ClassDef, ast.ImportFrom)
BUILTINS = """len range enumerate zip min max sum abs sorted reversed int str bool list tuple dict set isinstance ord
    repr any all divmod type Exception ValueError TypeError KeyError IndexError LookupError""".split()
METHODS = """append clear copy count endswith extend find get index insert isalnum isalpha isdigit islower isspace
    isupper items join keys ljust lower lstrip partition pop remove replace reverse rfind rjust rpartition rsplit
    rstrip setdefault split splitlines startswith strip update upper values zfill""".split()
OWN_METHODS = ["_verdict_here", "_need_mark"]
DOUBLE = ("__init__",)


def files():
    return sorted(FOLDER.glob("*.py"))


def nodes(kind):
    """All nodes of that kind in the package, each with a word on where it stands."""
    for file in files():
        for node in ast.walk(ast.parse(file.read_text())):
            if isinstance(node, kind):
                yield node, f"{file.name}:{getattr(node, 'lineno', 0)}"


class Language(unittest.TestCase):
    def test_the_folder(self):
        names = {path.name for path in FOLDER.iterdir()} - {"__pycache__"}
        self.assertEqual(names, {path.name for path in files()})
        self.assertIn("__init__.py", names)
        for path in files():
            self.assertLessEqual(set(path.stem), set(string.ascii_lowercase + string.digits + "_"))

    def test_sizes_and_characters(self):
        for file in files():
            lines = file.read_text(encoding="utf-8").split("\n")
            self.assertLessEqual(len(lines), 400, file.name)
            for at, line in enumerate(lines, 1):
                self.assertLessEqual(len(line), 120, f"{file.name}:{at}")
                self.assertTrue(all(" " <= sign <= "~" for sign in line), f"{file.name}:{at}")
        for node, where in nodes(ast.FunctionDef):
            self.assertLessEqual(node.end_lineno - node.lineno + 1, 40, where)

    def test_imports(self):
        seen = {}
        for node, where in nodes(ast.ImportFrom):
            self.assertEqual(node.level, 0, where)
            self.assertTrue(node.module.startswith("soonsaid."), where)
            path = FOLDER / (node.module.split(".")[1] + ".py")
            defined = {row.name for row in ast.parse(path.read_text()).body if hasattr(row, "name")}
            defined |= {row.targets[0].id for row in ast.parse(path.read_text()).body if isinstance(row, ast.Assign)}
            for name in node.names:
                self.assertIn(name.name, defined, where)
                self.assertIsNone(name.asname, where)
            seen.setdefault(where.split(".")[0], set()).add(node.module.split(".")[1])
        for start in seen:
            reached, left = set(), list(seen[start])
            while left:
                file = left.pop()
                if file not in reached:
                    reached.add(file)
                    left += seen.get(file, ())
            self.assertNotIn(start, reached)
        self.assertEqual(list(nodes(ast.Import)), [])

    def test_module_level(self):
        for file in files():
            names = []
            for row in ast.parse(file.read_text()).body:
                self.assertIsInstance(row, (ast.Expr, ast.ImportFrom, ast.Assign, ast.FunctionDef, ast.ClassDef))
                if isinstance(row, ast.Expr):
                    self.assertIsInstance(row.value.value, str, file.name)
                elif isinstance(row, ast.Assign):
                    ast.literal_eval(row.value)
                    names.append(row.targets[0].id)
                elif isinstance(row, ast.ImportFrom):
                    names += [name.name for name in row.names]
                else:
                    names.append(row.name)
            self.assertEqual(len(names), len(set(names)), file.name)
            self.assertEqual([name for name in names if hasattr(builtins, name)], [], file.name)

    def test_rows(self):
        for node, where in nodes(ast.stmt):
            self.assertIsInstance(node, ROWS, where)
        for node, where in nodes((ast.FunctionDef, ast.ClassDef)):
            self.assertEqual(node.decorator_list, [], where)
            self.assertTrue(not node.name.startswith("__") or node.name in DOUBLE, where)

    def test_values(self):
        barred = (ast.Set, ast.SetComp, ast.NamedExpr, ast.Await, ast.YieldFrom, ast.Div, ast.MatMult,
                  ast.Global, ast.Nonlocal)
        self.assertEqual([where for _, where in nodes(barred)], [])
        for node, where in nodes(ast.Constant):
            self.assertIn(type(node.value), (int, str, bool, type(None)), where)
            self.assertTrue(not isinstance(node.value, str) or "%" not in node.value, where)

    def test_generators(self):
        """Each yield is a row of its own, under no try; each call of a generator is iterated where it stands."""
        for file in files():
            inner = list(ast.walk(ast.parse(file.read_text())))
            rows = [node.value for node in inner if isinstance(node, ast.Expr)]
            iterated = [node.iter for node in inner if isinstance(node, (ast.For, ast.comprehension))]
            functions = [node for node in inner if isinstance(node, ast.FunctionDef)]
            makers = [function.name for function in functions
                      if any(isinstance(node, ast.Yield) for node in ast.walk(function))]
            for node in inner:
                if isinstance(node, ast.Yield):
                    self.assertIn(node, rows, file.name)
                if isinstance(node, ast.Try):
                    self.assertFalse([part for part in ast.walk(node) if isinstance(part, ast.Yield)], file.name)
                if isinstance(node, ast.Name) and node.id in makers:
                    self.assertIn(node, [call.func for call in iterated if isinstance(call, ast.Call)], file.name)

    def test_is_stands_beside_none_true_or_false(self):
        for node, where in nodes(ast.Compare):
            for sign, right in zip(node.ops, node.comparators):
                if isinstance(sign, (ast.Is, ast.IsNot)):
                    self.assertIsInstance(right, ast.Constant, where)
                    self.assertIn(right.value, (None, True, False), where)

    def test_builtins_and_methods(self):
        for node, where in nodes(ast.Name):
            if hasattr(builtins, node.id):
                self.assertIsInstance(node.ctx, ast.Load, where)
                self.assertIn(node.id, BUILTINS, where)
        for node, where in nodes(ast.arg):
            self.assertFalse(hasattr(builtins, node.arg), where)
        for node, where in nodes(ast.Call):
            if isinstance(node.func, ast.Attribute):
                self.assertIn(node.func.attr, METHODS + OWN_METHODS, where)
