"""The package's own form, as far as a few plain looks at its files tell it."""

import ast
import builtins
import re
import unittest
from pathlib import Path

PACKAGE = Path(__file__).resolve().parent.parent / "fieldshares"

STATEMENTS = (ast.Assign, ast.AugAssign, ast.If, ast.While, ast.For, ast.Return, ast.Break, ast.Continue, ast.Pass,
              ast.Raise, ast.Try, ast.Expr, ast.FunctionDef, ast.ClassDef, ast.ImportFrom)

NOT_USED = (ast.Div, ast.Set, ast.SetComp, ast.DictComp, ast.GeneratorExp, ast.NamedExpr, ast.Starred, ast.Yield,
            ast.YieldFrom, ast.Await, ast.Is, ast.IsNot)

OWN_NAMES = set("""len range enumerate zip min max sum abs sorted reversed int str bool list tuple dict set isinstance
    any all divmod True False None ValueError KeyError ZeroDivisionError""".split())

METHODS = set("""append clear copy count endswith extend find get index insert isalnum isalpha isdigit islower isspace
    isupper items join keys ljust lower lstrip partition pop remove replace reverse rfind rjust rpartition rsplit rstrip
    setdefault split splitlines startswith strip update upper values zfill bit_length""".split())

NOWHERE = set("""register mro elements open input version_info with_traceback add_note format format_map attrgetter
    breakpoint builtins compile copyright credits delattr dir eval exec exit gc getattr globals hasattr help id
    importlib license locals methodcaller os quit setattr super vars sys""".split())

WORDS = re.compile(r"\b(type|typing|typing_extensions|enum|Enum|Generic|Protocol|ABC|namedtuple|NamedTuple)\b"
                   r"|dataclass|overload|contextmanager")


def files():
    return sorted(PACKAGE.glob("*.py"))


def parsed():
    return [(path.name, ast.parse(path.read_text(encoding="utf-8"))) for path in files()]


def bound_names(tree):
    names = set()
    for node in ast.walk(tree):
        if isinstance(node, (ast.FunctionDef, ast.ClassDef)):
            names.add(node.name)
        elif isinstance(node, ast.arg):
            names.add(node.arg)
        elif isinstance(node, ast.alias):
            names.add(node.asname or node.name)
        elif isinstance(node, ast.Name) and isinstance(node.ctx, ast.Store):
            names.add(node.id)
    return names


def own_methods():
    return {node.name for _, tree in parsed() for one in ast.walk(tree) if isinstance(one, ast.ClassDef)
            for node in one.body if isinstance(node, ast.FunctionDef)}


def own_values():
    return {node.attr for _, tree in parsed() for node in ast.walk(tree)
            if isinstance(node, ast.Attribute) and isinstance(node.ctx, ast.Store)}


class Form(unittest.TestCase):
    def test_the_folder_holds_plain_files_alone(self):
        self.assertIn("__init__.py", [path.name for path in files()])
        others = [path.name for path in PACKAGE.iterdir() if path.suffix != ".py" and path.name != "__pycache__"]
        self.assertEqual(others, [])
        for path in files():
            self.assertRegex(path.name, r"^(__init__|[a-z][a-z0-9_]*)\.py$")

    def test_rows_and_signs(self):
        for path in files():
            text = path.read_text(encoding="utf-8")
            self.assertRegex(text, r"\A[\n -~]*\Z", path.name)
            self.assertIsNone(WORDS.search(text), path.name)
            rows = text.splitlines()
            self.assertLessEqual(len(rows), 400, path.name)
            self.assertLessEqual(max(len(row) for row in rows), 120, path.name)

    def test_functions_are_short_and_plain(self):
        for name, tree in parsed():
            for node in ast.walk(tree):
                if isinstance(node, ast.FunctionDef):
                    self.assertLessEqual(node.end_lineno - node.lineno + 1, 40, f"{name}: {node.name}")
                    told = node.args
                    self.assertFalse(told.vararg or told.kwarg or told.kwonlyargs or node.decorator_list, node.name)

    def test_statements_and_expressions(self):
        for name, tree in parsed():
            for node in ast.walk(tree):
                where = f"{name}: {getattr(node, 'lineno', '')}"
                if isinstance(node, ast.stmt):
                    self.assertIsInstance(node, STATEMENTS, where)
                self.assertNotIsInstance(node, NOT_USED, where)
                if isinstance(node, ast.Constant):
                    self.assertIn(type(node.value), (int, str, bool, type(None)), where)
                if isinstance(node, ast.Assign):
                    self.assertEqual(len(node.targets), 1, where)
                if isinstance(node, (ast.For, ast.While)):
                    self.assertEqual(node.orelse, [], where)
                if isinstance(node, ast.ListComp):
                    self.assertEqual(len(node.generators), 1, where)
                    self.assertLessEqual(len(node.generators[0].ifs), 1, where)
                if isinstance(node, ast.BinOp) and isinstance(node.op, ast.Pow):
                    self.assertIsInstance(node.right, ast.Constant, where)

    def test_imports_are_the_packages_own(self):
        for name, tree in parsed():
            for node in ast.walk(tree):
                if isinstance(node, ast.ImportFrom):
                    self.assertEqual(node.level, 0, name)
                    self.assertTrue(node.module.startswith("fieldshares."), name)

    def test_at_the_top_each_name_once_and_plain(self):
        for name, tree in parsed():
            names = []
            for node in tree.body:
                if isinstance(node, ast.Assign):
                    names.append(node.targets[0].id)
                    self.assertNotIsInstance(node.value, (ast.Call, ast.ListComp), name)
                    inner = list(ast.walk(node.value))[1:]
                    self.assertFalse([one for one in inner if isinstance(one, (ast.List, ast.Dict))], name)
                elif isinstance(node, (ast.FunctionDef, ast.ClassDef)):
                    names.append(node.name)
                else:
                    self.assertIsInstance(node, (ast.ImportFrom, ast.Expr), name)
            self.assertEqual(len(names), len(set(names)), name)

    def test_no_two_files_draw_from_one_another(self):
        drawn = {f"fieldshares.{name[:-3]}": {node.module for node in tree.body if isinstance(node, ast.ImportFrom)}
                 for name, tree in parsed()}
        while drawn:
            free = [name for name, others in drawn.items() if not others & set(drawn)]
            self.assertNotEqual(free, [], drawn)
            drawn = {name: others for name, others in drawn.items() if name not in free}

    def test_methods_and_values(self):
        methods, values = own_methods(), own_values()
        pythons = {name for kind in (str, int, list, dict, set, bytes, tuple) for name in dir(kind)} - {"__init__"}
        self.assertEqual(methods & values, set())
        self.assertEqual((methods | values) & pythons, set())
        for name, tree in parsed():
            for node in ast.walk(tree):
                if isinstance(node, ast.Attribute):
                    self.assertIn(node.attr, methods | values | METHODS, name)

    def test_names(self):
        for name, tree in parsed():
            bound = bound_names(tree)
            self.assertEqual({one for one in bound if one.startswith("_")} - {"__init__"}, set(), name)
            self.assertEqual(bound & set(dir(builtins)), set(), name)
            self.assertEqual(bound & NOWHERE, set(), name)
            read = {node.id for node in ast.walk(tree) if isinstance(node, ast.Name)}
            self.assertEqual(read - bound - OWN_NAMES, set(), name)


if __name__ == "__main__":
    unittest.main()
