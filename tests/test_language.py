"""The package keeps to the small part of Python it is written in: the rules that can be read off its files."""

import ast
import pathlib
import re
import unittest

PACKAGE = pathlib.Path(__file__).resolve().parent.parent / "turnwords"

STATEMENTS = (ast.FunctionDef, ast.ClassDef, ast.Assign, ast.AugAssign, ast.If, ast.While, ast.For, ast.Return,
              ast.Break, ast.Continue, ast.Pass, ast.Raise, ast.Try, ast.Expr, ast.ImportFrom)
NEVER = (ast.Set, ast.SetComp, ast.DictComp, ast.GeneratorExp, ast.NamedExpr, ast.Starred, ast.Div, ast.MatMult,
         ast.Yield, ast.YieldFrom, ast.Await, ast.AnnAssign)
NAMES = set("""len range enumerate zip min max sum abs sorted reversed int str bool list tuple dict set frozenset
    isinstance ord repr any all divmod Exception ValueError TypeError KeyError IndexError LookupError
    ZeroDivisionError ArithmeticError OverflowError RuntimeError NotImplementedError AttributeError
    StopIteration""".split())
METHODS = set("""append clear copy count endswith extend find get index insert isalnum isalpha isdigit islower
    isspace isupper items join keys ljust lower lstrip partition pop remove replace reverse rfind rjust rpartition
    rsplit rstrip setdefault split splitlines startswith strip update upper values zfill bit_length""".split())
WORDS = re.compile(r"\b(type|typing|typing_extensions|enum|Enum|IntEnum|StrEnum|Flag|IntFlag|Generic|Protocol|ABC"
                   r"|ABCMeta|namedtuple|NamedTuple|TypedDict|TYPE_CHECKING|abstractmethod)\b"
                   r"|dataclass|overload|contextmanager")
PYTHONS_OWN = set(dir(__builtins__) if not isinstance(__builtins__, dict) else __builtins__)
METHODS_WITH_UNDERSCORES = {"__init__", "__eq__", "__repr__", "__str__", "__len__"}


def bound_names(tree):
    """Every name that the file gives a meaning, its parameters, locals and imports among them."""
    names = []
    for node in ast.walk(tree):
        if isinstance(node, (ast.FunctionDef, ast.ClassDef)):
            names.append(node.name)
        elif isinstance(node, ast.arg):
            names.append(node.arg)
        elif isinstance(node, ast.alias):
            names.append(node.asname or node.name)
        elif isinstance(node, ast.Name) and isinstance(node.ctx, ast.Store):
            names.append(node.id)
        elif isinstance(node, ast.ExceptHandler) and node.name:
            names.append(node.name)
    return names


def faults_of_signs(text):
    lines = text.split("\n")
    faults = ["L10 a file of more than 399 lines"] if len(lines) > 400 else []
    faults += [f"L10 line {at}" for at, line in enumerate(lines, 1) if len(line) > 120]
    faults += [f"L14 the sign {sign!r}" for sign in sorted(set(text)) if sign != "\n" and not " " <= sign <= "~"]
    return faults + [f"L17 the word {found.group()}" for found in WORDS.finditer(text)]


def own_methods(trees):
    return {part.name for tree in trees for node in ast.walk(tree) if isinstance(node, ast.ClassDef)
            for part in node.body if isinstance(part, ast.FunctionDef)}


def faults_of_names(tree, methods):
    bound = bound_names(tree)
    faults = [f"L8, L15 the name {name}" for name in bound
              if name in PYTHONS_OWN and name not in METHODS_WITH_UNDERSCORES]
    faults += [f"L12 the name {name}" for name in bound if name not in METHODS_WITH_UNDERSCORES
               and not re.fullmatch("[A-Za-z][A-Za-z0-9_]*", name)]
    classes = {node.name for node in tree.body if isinstance(node, ast.ClassDef)}
    own = methods | own_methods([tree])
    for node in ast.walk(tree):
        if isinstance(node, ast.Name) and node.id not in NAMES | set(bound):
            faults.append(f"L8 the name {node.id}")
        if isinstance(node, ast.Call) and isinstance(node.func, ast.Attribute):
            if node.func.attr not in METHODS | own | METHODS_WITH_UNDERSCORES:
                faults.append(f"L25 the method {node.func.attr}")
        if isinstance(node, ast.ClassDef) and (node.name not in classes or len(node.bases) > 1 or node.keywords):
            faults.append(f"L5, L15 the class {node.name}")
    return faults


def is_plain_value(node):
    if isinstance(node, (ast.List, ast.Tuple)):
        return all(is_plain_value(part) for part in node.elts)
    if isinstance(node, ast.Dict):
        return all(is_plain_value(part) for part in node.keys + node.values)
    if isinstance(node, ast.UnaryOp):
        return isinstance(node.op, ast.USub) and isinstance(node.operand, ast.Constant)
    return isinstance(node, ast.Name) or isinstance(node, ast.Constant) and not isinstance(node.value, (float, bytes))


def faults_of_top(tree):
    faults = []
    for node in tree.body:
        if isinstance(node, ast.Assign):
            if not is_plain_value(node.value):
                faults.append(f"L3 line {node.lineno}")
            parts = getattr(node.value, "elts", []) + getattr(node.value, "values", [])
            faults += [f"L15 line {node.lineno}" for part in parts if isinstance(part, (ast.List, ast.Dict))]
        elif isinstance(node, ast.Expr):
            if not isinstance(node.value, ast.Constant):
                faults.append(f"L3 line {node.lineno}")
        elif not isinstance(node, (ast.FunctionDef, ast.ClassDef, ast.ImportFrom)):
            faults.append(f"L3 line {node.lineno}")
    tops = [name for name in bound_names(ast.Module([node for node in tree.body if isinstance(node, ast.Assign)], []))]
    tops += [node.name for node in tree.body if isinstance(node, (ast.FunctionDef, ast.ClassDef))]
    return faults + [f"L15 {name} is bound twice" for name in set(tops) if tops.count(name) > 1]


def faults_of_forms(tree):
    faults = []
    for node in ast.walk(tree):
        line = getattr(node, "lineno", 0)
        if isinstance(node, ast.stmt) and not isinstance(node, STATEMENTS) or isinstance(node, NEVER):
            faults.append(f"L6, L7 line {line}")
        if isinstance(node, (ast.For, ast.While)) and node.orelse or isinstance(node, ast.Try) and node.finalbody:
            faults.append(f"L6 line {line}")
        if isinstance(node, ast.Assign) and len(node.targets) > 1:
            faults.append(f"L6 line {line}")
        if isinstance(node, (ast.FunctionDef, ast.ClassDef)) and node.decorator_list:
            faults.append(f"L4, L5 line {line}")
        if isinstance(node, ast.FunctionDef) and node.end_lineno - node.lineno >= 40:
            faults.append(f"L10 line {line}")
        if isinstance(node, ast.arguments) and (node.vararg or node.kwarg or node.kwonlyargs or node.posonlyargs):
            faults.append("L4 parameters")
        if isinstance(node, ast.ImportFrom) and (node.level or not node.module.startswith("turnwords.")):
            faults.append(f"L2, L16 line {line}")
        if isinstance(node, ast.Constant) and isinstance(node.value, (float, complex, bytes)):
            faults.append(f"L7 line {line}")
        if isinstance(node, ast.comprehension) and len(node.ifs) > 1:
            faults.append("L7 a comprehension")
        if isinstance(node, ast.ExceptHandler) and node.type is None:
            faults.append(f"L6 line {line}")
    return faults


def faults_of_locals(tree):
    """L15: no parameter and no local is called like a class or an import of its file."""
    imported = {name.name for node in tree.body if isinstance(node, ast.ImportFrom) for name in node.names}
    tops = imported | {node.name for node in tree.body if isinstance(node, ast.ClassDef)}
    within = [node for top in tree.body for node in ast.walk(top) if not isinstance(top, ast.ImportFrom)]
    named = [node.arg for node in within if isinstance(node, ast.arg)]
    named += [node.id for node in within if isinstance(node, ast.Name) and isinstance(node.ctx, ast.Store)]
    return [f"L15 the local {name}" for name in named if name in tops]


def faults_of_kinds(trees):
    """L26: no method is called like one of Python's own; L18: no name is a method here and a value there."""
    methods = own_methods(trees)
    values = {node.attr for tree in trees for node in ast.walk(tree)
              if isinstance(node, ast.Attribute) and isinstance(node.ctx, ast.Store)}
    pythons = {name for kind in (str, int, list, dict, set, bytes) for name in dir(kind)}
    faults = [f"L26 {name}" for name in sorted((methods | values) & pythons - METHODS_WITH_UNDERSCORES)]
    return faults + [f"L18 {name}" for name in sorted(methods & values)]


def faults_of(text, methods=frozenset()):
    tree = ast.parse(text)
    return (faults_of_signs(text) + faults_of_names(tree, methods) + faults_of_locals(tree) + faults_of_top(tree)
            + faults_of_forms(tree))


class PackageTest(unittest.TestCase):
    def files(self):
        return [path for path in sorted(PACKAGE.rglob("*")) if "__pycache__" not in path.parts]

    def test_only_plain_files_lie_in_it(self):
        for path in self.files():
            self.assertRegex(path.name, r"\A([a-z][a-z0-9_]*|__init__)\.py\Z")
        self.assertIn(PACKAGE / "__init__.py", self.files())

    def test_each_file_keeps_to_the_rules(self):
        texts = {path.name: path.read_text(encoding="utf-8") for path in self.files()}
        trees = [ast.parse(text) for text in texts.values()]
        for name, text in texts.items():
            self.assertEqual(faults_of(text, own_methods(trees)), [], name)
        self.assertEqual(faults_of_kinds(trees), [])

    def test_what_is_imported_is_defined_there(self):
        drawn = {}
        for path in self.files():
            imports = [node for node in ast.parse(path.read_text()).body if isinstance(node, ast.ImportFrom)]
            drawn[path.stem] = {node.module.split(".")[1] for node in imports}
            for node in imports:
                there = ast.parse((PACKAGE / (node.module.split(".")[1] + ".py")).read_text())
                defined = {part.name for part in there.body if isinstance(part, (ast.FunctionDef, ast.ClassDef))}
                defined |= {part.targets[0].id for part in there.body if isinstance(part, ast.Assign)}
                self.assertLessEqual({name.name for name in node.names}, defined)
        while drawn:
            free = [name for name in drawn if not drawn[name] & set(drawn)]
            self.assertTrue(free, "files draw from one another")
            drawn = {name: drawn[name] for name in drawn if name not in free}

    def test_the_interface_stands_in_its_file(self):
        found = [(path.name, node) for path in self.files() for node in ast.parse(path.read_text()).body
                 if isinstance(node, ast.FunctionDef) and node.name == "answers"]
        self.assertEqual([name for name, _ in found], ["nets.py"])
        arguments = found[0][1].args
        self.assertEqual(([part.arg for part in arguments.args], arguments.defaults), (["calls"], []))


class FaultsTest(unittest.TestCase):
    def test_faults_are_found(self):
        for text in ("import os", "from os import path", "x = f(1)", "print(1)", "def f():\n    return eval('1')",
                     "def f(a, *b):\n    pass", "def f():\n    return {1, 2}", "def f(a):\n    return a / 2",
                     "def f(a):\n    a.sort()", "def f(a):\n    assert a", "def next(a):\n    pass", "x = 1\nx = 2",
                     "def f(min):\n    pass", "def _f():\n    pass", "x = [[1]]", "# the type", "x = 1.5",
                     "x = '\u00e9'",
                     "def f():\n" + "    pass\n" * 40, "x = 1  #" + "-" * 120, "def f(a):\n    with a:\n        pass",
                     "class A(B, C):\n    pass", "def f():\n    class A:\n        pass", "x = y = 1",
                     "from turnwords.nets import a\n\n\ndef f():\n    a = 1", "def f(a):\n    a.far()",
                     "class A:\n    pass\n\n\ndef f(A):\n    pass"):
            self.assertNotEqual(faults_of(text), [], text)

    def test_methods_of_other_files_are_known(self):
        self.assertEqual(faults_of("def f(a):\n    a.far()", {"far"}), [])

    def test_kinds_of_names(self):
        for text in ("class A:\n    def keys(self):\n        pass", "def f(a):\n    a.items = 1",
                     "class A:\n    def far(self):\n        self.far = 1"):
            self.assertNotEqual(faults_of_kinds([ast.parse(text)]), [], text)

    def test_plain_code_has_none(self):
        self.assertEqual(faults_of("x = (1, -2)\n\n\ndef f(a, b=1):\n    return [c + b for c in a if c > 0]\n"), [])


if __name__ == "__main__":
    unittest.main()
