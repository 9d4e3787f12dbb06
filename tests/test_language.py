"""The rules of the language that the package is written in, as far as they are easily seen."""

import ast
import builtins
import pathlib
import re
import unittest

PACKAGE = pathlib.Path(__file__).resolve().parent.parent / "gridshapes"
FILES = sorted(path for path in PACKAGE.iterdir() if path.name != "__pycache__")
BUILTINS = set(
    "len range enumerate zip min max sum abs sorted reversed int str bool bytes list tuple dict set isinstance ord "
    "repr any all divmod iter next map Exception ValueError TypeError KeyError IndexError LookupError "
    "ZeroDivisionError ArithmeticError OverflowError RuntimeError NotImplementedError AttributeError super".split())
METHODS = set(
    "append clear copy count endswith extend find get index insert isalnum isalpha isdigit islower isspace isupper "
    "items join keys ljust lower lstrip partition pop remove replace reverse rfind rjust rpartition rsplit rstrip "
    "setdefault split splitlines startswith strip update upper values zfill bit_length __init__".split())
NOT_USED = re.compile(
    r"\b(register|mro|elements|open|input|law|version_info|with_traceback|add_note|type|typing|enum|Enum|eval|exec|"
    r"exit|getattr|setattr|delattr|hasattr|globals|locals|vars|id|dir|os|sys|compile|help|license|quit|gc)\b")
OUTSIDE = {"math": {"gcd", "lcm", "isqrt", "comb", "perm", "factorial"},
           "itertools": {"product", "combinations", "permutations"},
           "heapq": {"heappush", "heappop", "heapify", "heapreplace", "heappushpop"}}
STATEMENTS = (
    ast.FunctionDef, ast.ClassDef, ast.Return, ast.Delete, ast.Assign, ast.AugAssign, ast.For, ast.While, ast.If,
    ast.With, ast.Raise, ast.Try, ast.Assert, ast.ImportFrom, ast.Expr, ast.Pass, ast.Break, ast.Continue,
    ast.Nonlocal)
DOUBLE = ("__init__", "__eq__", "__len__")
NO_BEGINNING = re.compile(
    r"_(wall|pe_|dcw_|enum_|cm_|twin_re_|lay_|law_|stub_|sre|cold|tuplegetter|outside|record|written_out|member_names)")
POWER_MOST = 64
# Places of a power at a file's top and in functions; BY stands for what it is by.
POWERS = (
    "END = 10 ** BY", "END = 10 ** 50 * 10 ** BY", "END = 0 - (10 ** BY) ** 3", "ENDS = (1, (2, 10 ** BY))",
    "ENDS = {10 ** BY: 1}", "class Box:\n    END = 10 ** BY", "def end(most=10 ** BY):\n    return most",
    "def end():\n    return 10 ** BY", "def end(k):\n    return k ** BY", "def end(k):\n    k **= BY\n    return k",
    "def end(box):\n    box.many **= BY", "def end(rows):\n    return [row ** BY for row in rows]",
    "def end(k):\n    return f'{k ** BY}'", "def end(rows):\n    return sorted(rows, key=lambda row: row ** BY)",
    "def end(k):\n    def inner(n):\n        return n ** BY\n    return inner(k)",
    "class Box:\n    def end(self):\n        if self.many > 10 ** BY:\n            return 1\n        return 0")
POWERS_LET = ("0", "1", "2", "50", "63", "64")
POWERS_BARRED = ("65", "66", "100", "200", "1000", "-1", "-65", "k", "END", "True", "None", "1.5", "(60 + 4)",
                 "(60 + 5)", "int(3)", "2 ** 3", "65 ** 1", "rows[0]")
FLOW = ("any", "all", "min", "max", "sum", "sorted", "list", "tuple", "dict", "enumerate", "zip")


def trees():
    for path in FILES:
        yield path, ast.parse(path.read_text(encoding="ascii"))


def own_attributes():
    """The names of all methods and of all attributes that are assigned, class by class; of errors too."""
    told = {}
    for _, tree in trees():
        for node in ast.walk(tree):
            if isinstance(node, ast.ClassDef):
                methods = {row.name for row in node.body if isinstance(row, ast.FunctionDef)}
                stored = {row.attr for row in ast.walk(node)
                          if isinstance(row, ast.Attribute) and isinstance(row.ctx, ast.Store)}
                told[node.name] = (methods, stored)
    return told


def bound_names(tree):
    """Pairs of a bound name and the kind of its binding."""
    methods = [row for node in ast.walk(tree) if isinstance(node, ast.ClassDef) for row in node.body]
    for node in ast.walk(tree):
        if isinstance(node, ast.arg):
            yield node.arg, "local"
        elif isinstance(node, ast.Name) and isinstance(node.ctx, ast.Store):
            yield node.id, "local"
        elif isinstance(node, ast.ImportFrom):
            for name in node.names:
                yield name.name, "import"
        elif isinstance(node, (ast.FunctionDef, ast.ClassDef)):
            yield node.name, "method" if node in methods else "def"


def wrong_powers(tree):
    """The lines of powers that are by anything but a literal number from 0 to 64."""
    lines = []
    for node in ast.walk(tree):
        if not isinstance(node, (ast.BinOp, ast.AugAssign)) or not isinstance(node.op, ast.Pow):
            continue
        by = node.right if isinstance(node, ast.BinOp) else node.value
        # A literal number has no sign; True is a literal, but no number.
        if not isinstance(by, ast.Constant) or by.value.__class__ is not int or by.value > POWER_MOST:
            lines.append(node.lineno)
    return lines


class Language(unittest.TestCase):
    def test_files(self):
        names = [path.name for path in FILES]
        self.assertIn("__init__.py", names)
        for name in names:
            self.assertRegex(name, r"^[a-z_]+\.py$")

    def test_lines(self):
        for path in FILES:
            text = path.read_text(encoding="ascii")
            rows = text.split("\n")
            self.assertLessEqual(len(rows) - 1, 399, path)
            self.assertLessEqual(max(len(row) for row in rows), 120, path)
            self.assertRegex(text, r"^[ -~\n]*$")
            self.assertNotIn("_wa" + "ll", text, path)
            self.assertNotIn("%", re.sub(r" % ", "", text), path)

    def test_functions(self):
        for path, tree in trees():
            for node in ast.walk(tree):
                if isinstance(node, ast.FunctionDef):
                    self.assertLessEqual(node.end_lineno - node.lineno + 1, 40, (path, node.name))
                    self.assertEqual(node.decorator_list, [], (path, node.name))

    def test_classes(self):
        for name, (methods, stored) in own_attributes().items():
            self.assertEqual(methods & stored, set(), name)
            self.assertEqual((methods | stored) & (METHODS - {"__init__"}), set(), name)
        for path, tree in trees():
            for node in ast.walk(tree):
                if not isinstance(node, ast.FunctionDef) or node.name not in ("__eq__", "__len__"):
                    continue
                self.assertEqual([row.__class__ for row in node.body], [ast.Return], path)
                if node.name == "__len__":
                    self.assertEqual(node.body[0].value.func.id, "len", path)

    def test_tries(self):
        for path, tree in trees():
            for node in ast.walk(tree):
                if not isinstance(node, ast.Try):
                    continue
                for handler in node.handlers:
                    names = handler.type.elts if isinstance(handler.type, ast.Tuple) else [handler.type]
                    self.assertLessEqual({name.id for name in names}, {"ShapeError", "TooMany"}, path)
                for row in node.finalbody:
                    self.assertIsInstance(row, ast.Assign, path)
                    for part in ast.walk(row):
                        self.assertNotIsInstance(part, (ast.Call, ast.Subscript, ast.BinOp, ast.List), path)

    def test_statements_and_signs(self):
        own = {"told", "most"}
        for methods, stored in own_attributes().values():
            own |= methods | stored
        for path, tree in trees():
            for node in ast.walk(tree):
                here = (path.name, getattr(node, "lineno", 0))
                if isinstance(node, ast.stmt):
                    self.assertIsInstance(node, STATEMENTS, here)
                self.assertNotIsInstance(node, (ast.GeneratorExp, ast.Set, ast.SetComp, ast.Div), here)
                if isinstance(node, ast.Constant):
                    self.assertNotIsInstance(node.value, (float, complex), here)
                if isinstance(node, ast.Compare):
                    for op, other in zip(node.ops, node.comparators):
                        if isinstance(op, (ast.Is, ast.IsNot)):
                            self.assertIsInstance(other, ast.Constant, here)
                if isinstance(node, ast.Raise):
                    self.assertIsInstance(node.exc, ast.Call, here)
                if isinstance(node, ast.Attribute):
                    self.assertIn(node.attr, METHODS | own, here)
                if isinstance(node, ast.BinOp) and isinstance(node.op, ast.Pow):
                    self.assertNotEqual(getattr(node.left, "value", 0), 2, here)

    def test_powers(self):
        for path, tree in trees():
            self.assertEqual(wrong_powers(tree), [], path)

    def test_powers_are_seen(self):
        for text in POWERS:
            line = text[:text.index("BY")].count("\n") + 1
            for by in POWERS_LET:
                self.assertEqual(wrong_powers(ast.parse(text.replace("BY", by))), [], (text, by))
            for by in POWERS_BARRED:
                self.assertIn(line, wrong_powers(ast.parse(text.replace("BY", by))), (text, by))

    def test_names(self):
        taken = set(dir(builtins))
        for path, tree in trees():
            rows = list(bound_names(tree))
            imports = [name for name, kind in rows if kind == "import"]
            defined = [name for name, kind in rows if kind == "def" and name not in DOUBLE]
            self.assertEqual(len(imports + defined), len(set(imports + defined)), path)
            for name, kind in rows:
                self.assertNotIn(name, taken, path)
                self.assertNotRegex(name, NOT_USED, path)
                self.assertFalse(name.startswith("__") and name not in DOUBLE, path)
                self.assertNotRegex(name, NO_BEGINNING, path)
                if kind == "local":
                    self.assertNotIn(name, imports + defined, path)
            for node in ast.walk(tree):
                if isinstance(node, ast.Name) and node.id in taken:
                    self.assertIn(node.id, BUILTINS, (path, node.lineno))
                if isinstance(node, ast.Constant) and isinstance(node.value, str):
                    self.assertNotIn("__", node.value, path)

    def test_imports(self):
        files = {path.stem: tree for path, tree in trees()}
        uses = {}
        for name, tree in files.items():
            uses[name] = set()
            read = {node.id for node in ast.walk(tree) if isinstance(node, ast.Name)}
            for node in ast.walk(tree):
                self.assertNotIsInstance(node, ast.Import, name)
                if not isinstance(node, ast.ImportFrom):
                    continue
                self.assertEqual(node.level, 0)
                told = {alias.name for alias in node.names}
                self.assertEqual([alias.asname for alias in node.names], [None] * len(told))
                self.assertLessEqual(told, read, (name, told - read))
                if node.module in OUTSIDE:
                    self.assertLessEqual(told, OUTSIDE[node.module])
                    continue
                package, _, source = node.module.partition(".")
                self.assertEqual(package, "gridshapes")
                uses[name].add(source)
                here = {n.name for n in files[source].body if isinstance(n, (ast.FunctionDef, ast.ClassDef))}
                here |= {n.targets[0].id for n in files[source].body if isinstance(n, ast.Assign)}
                self.assertLessEqual(told, here, (name, source))
        while uses:
            free = [name for name, sources in uses.items() if not sources & set(uses)]
            self.assertTrue(free, f"these import from each other: {sorted(uses)}")
            for name in free:
                del uses[name]

    def test_iterated_at_once(self):
        for path, tree in trees():
            for node in ast.walk(tree):
                for child in ast.iter_child_nodes(node):
                    if not isinstance(child, ast.Call) or not isinstance(child.func, ast.Name):
                        continue
                    if child.func.id not in ("zip", "enumerate", "range", "reversed", "combinations"):
                        continue
                    right = isinstance(node, (ast.For, ast.comprehension)) or (
                        isinstance(node, ast.Call) and node.func.id in FLOW + ("combinations",))
                    self.assertTrue(right, (path, child.lineno))


if __name__ == "__main__":
    unittest.main()
