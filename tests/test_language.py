"""The package's files keep to the language's rules, as far as a tree of the code shows it."""

import ast
import pathlib
import re
import unittest

PACKAGE = pathlib.Path(__file__).resolve().parent.parent / "knobplans"

BUILTINS = set("""len range enumerate zip min max sum abs sorted reversed int str bool list tuple dict set frozenset
    isinstance ord repr any all divmod Exception ValueError TypeError KeyError IndexError LookupError ZeroDivisionError
    ArithmeticError OverflowError RuntimeError NotImplementedError AttributeError StopIteration""".split())
METHODS = set("""append clear copy count endswith extend find get index insert isalnum isalpha isdigit islower isspace
    isupper items join keys ljust lower lstrip partition pop remove replace reverse rfind rjust rpartition rsplit rstrip
    setdefault split splitlines startswith strip update upper values zfill bit_length""".split())
SPECIAL = {"__init__", "__eq__", "__repr__", "__str__", "__len__"}
WORDS = re.compile(r"\b(type|typing|typing_extensions|enum|Enum|IntEnum|StrEnum|Flag|IntFlag|Generic|Protocol|ABC|ABCMeta"
                   r"|namedtuple|NamedTuple|TypedDict|TYPE_CHECKING|abstractmethod)\b|dataclass|overload|contextmanager")
NAMES = set("""register mro elements open input version_info with_traceback add_note attrgetter breakpoint builtins compile
    copyright credits delattr dir eval exec exit gc getattr globals hasattr help id importlib license locals
    methodcaller os quit setattr super type vars sys""".split())
NODES = (
    ast.Module, ast.ImportFrom, ast.alias, ast.FunctionDef, ast.arguments, ast.arg, ast.ClassDef, ast.Lambda,
    ast.Assign, ast.AugAssign, ast.If, ast.While, ast.For, ast.Return, ast.Break, ast.Continue, ast.Pass, ast.Raise,
    ast.Try, ast.ExceptHandler, ast.Expr, ast.Constant, ast.Name, ast.List, ast.Tuple, ast.Dict, ast.BinOp,
    ast.UnaryOp, ast.BoolOp, ast.Compare, ast.IfExp, ast.Call, ast.keyword, ast.Attribute, ast.Subscript, ast.Slice,
    ast.ListComp, ast.comprehension, ast.JoinedStr, ast.FormattedValue, ast.expr_context, ast.boolop, ast.unaryop,
    ast.cmpop, ast.operator,
)
WALKED = {"zip", "enumerate", "reversed", "range"}


def package_files():
    return sorted(path for path in PACKAGE.iterdir() if path.name != "__pycache__")


def faults_of_text(text):
    lines = text.split("\n")
    faults = ["size of the file"] if len(lines) > 400 else []
    for number, line in enumerate(lines, 1):
        if len(line) > 120 or not all(" " <= sign <= "~" for sign in line):
            faults.append(f"line {number}: length or sign")
        if WORDS.search(line):
            faults.append(f"line {number}: word")
    return faults


def fault_of_node(node):
    if not isinstance(node, NODES) or isinstance(node, (ast.Div, ast.MatMult)):
        return "not in the language"
    if isinstance(node, ast.ImportFrom) and (node.level or not node.module.startswith("knobplans.")):
        return "import"
    if isinstance(node, ast.FunctionDef):
        return fault_of_function(node)
    if isinstance(node, ast.ClassDef):
        return fault_of_class(node)
    if isinstance(node, ast.Assign) and len(node.targets) != 1:
        return "several targets"
    if isinstance(node, (ast.For, ast.While)) and node.orelse:
        return "else behind a loop"
    if isinstance(node, ast.Try) and node.finalbody:
        return "finally"
    if isinstance(node, ast.ExceptHandler) and node.type is None:
        return "except without a class"
    if isinstance(node, ast.Expr) and not isinstance(node.value, ast.Call):
        return "statement without effect"
    if isinstance(node, ast.Constant) and not (node.value is None or isinstance(node.value, (bool, int, str))):
        return "value"
    if isinstance(node, ast.Constant) and isinstance(node.value, str) and "%" in node.value:
        return "sign in a text"
    if isinstance(node, ast.ListComp) and (len(node.generators) > 1 or len(node.generators[0].ifs) > 1):
        return "comprehension"
    if isinstance(node, ast.Compare) and any(isinstance(sign, (ast.Is, ast.IsNot)) for sign in node.ops):
        sides = [side.value if isinstance(side, ast.Constant) else "" for side in node.comparators]
        if not all(side is None or isinstance(side, bool) for side in sides):
            return "is"
    return None


def fault_of_function(node):
    if node.decorator_list or node.args.vararg or node.args.kwarg or node.args.kwonlyargs or node.args.posonlyargs:
        return "form of a function"
    if node.end_lineno - node.lineno + 1 > 40:
        return "length of a function"
    return None


def fault_of_class(node):
    if node.decorator_list or node.keywords or len(node.bases) > 1:
        return "form of a class"
    if not all(isinstance(part, (ast.FunctionDef, ast.Pass)) for part in node.body):
        return "value in a class"
    return None


def names_in(tree):
    """Each name with how it stands: read, bound or as an attribute."""
    for node in ast.walk(tree):
        if isinstance(node, ast.Name):
            yield node.lineno, node.id, "read" if isinstance(node.ctx, ast.Load) else "bound"
        elif isinstance(node, ast.Attribute):
            yield node.lineno, node.attr, "attribute"
        elif isinstance(node, ast.arg):
            yield node.lineno, node.arg, "bound"
        elif isinstance(node, (ast.FunctionDef, ast.ClassDef)):
            yield node.lineno, node.name, "defined"
        elif isinstance(node, ast.ExceptHandler) and node.name:
            yield node.lineno, node.name, "bound"


def faults_of_names(tree):
    found = list(names_in(tree))
    known = {name for line, name, how in found if how in ("bound", "defined")}
    imported = [alias for node in tree.body if isinstance(node, ast.ImportFrom) for alias in node.names]
    known |= {alias.name for alias in imported}
    classes = {node.name for node in tree.body if isinstance(node, ast.ClassDef)} | {alias.name for alias in imported}
    python_s_own = set(dir(__builtins__) if not isinstance(__builtins__, dict) else __builtins__)
    faults = [f"import as {alias.asname}" for alias in imported if alias.asname]
    for line, name, how in found:
        if how == "read" and name not in known and name not in BUILTINS:
            faults.append(f"line {line}: {name} is no name of the language")
        if how in ("bound", "defined") and name in python_s_own:
            faults.append(f"line {line}: {name} is Python's own")
        if how == "bound" and name in classes:
            faults.append(f"line {line}: {name} is a class or an import")
        if name in NAMES or (name.startswith("_") and name not in SPECIAL):
            faults.append(f"line {line}: name {name}")
    return faults


def faults_of_top(tree):
    allowed = (ast.ImportFrom, ast.FunctionDef, ast.ClassDef, ast.Assign)
    faults = [f"line {node.lineno}: top" for node in tree.body[1:] if not isinstance(node, allowed)]
    if ast.get_docstring(tree) is None:
        faults.append("no docstring")
    bound = [node.name for node in tree.body if isinstance(node, (ast.FunctionDef, ast.ClassDef))]
    for node in tree.body:
        if isinstance(node, ast.Assign):
            bound.extend(target.id for target in node.targets)
            inner = [part for part in ast.walk(node.value) if part is not node.value]
            if any(isinstance(part, (ast.List, ast.Dict)) for part in inner):
                faults.append(f"line {node.lineno}: list or dict within a value of the top")
    return faults + [f"{name} bound twice" for name in set(bound) if bound.count(name) > 1]


def faults_of_calls(tree):
    faults = []
    methods = METHODS | {node.name for node in ast.walk(tree) if isinstance(node, ast.FunctionDef)}
    walked_on_the_spot = set()
    for node in ast.walk(tree):
        if isinstance(node, (ast.For, ast.comprehension)):
            walked_on_the_spot.add(node.iter)
        if isinstance(node, ast.Call):
            walked_on_the_spot.update(node.args[:1])
    for node in ast.walk(tree):
        if isinstance(node, ast.Call) and isinstance(node.func, ast.Attribute) and node.func.attr not in methods:
            faults.append(f"line {node.lineno}: method {node.func.attr}")
        if isinstance(node, ast.Call) and isinstance(node.func, ast.Name) and node.func.id in WALKED:
            if node not in walked_on_the_spot:
                faults.append(f"line {node.lineno}: {node.func.id} is not walked on the spot")
    return faults


def faults_of_source(text):
    tree = ast.parse(text)
    faults = faults_of_text(text) + faults_of_names(tree) + faults_of_top(tree) + faults_of_calls(tree)
    for node in ast.walk(tree):
        fault = None if node is tree.body[0] else fault_of_node(node)
        if fault:
            faults.append(f"line {getattr(node, 'lineno', '?')}: {fault}")
    return faults


class Language(unittest.TestCase):
    def test_package_holds_python_files_alone(self):
        names = [path.name for path in package_files()]
        self.assertIn("__init__.py", names)
        self.assertIn("desk.py", names)
        for name in names:
            self.assertRegex(name, r"^[a-z0-9_]+\.py$")

    def test_each_file_keeps_to_the_rules(self):
        for path in package_files():
            with self.subTest(file=path.name):
                self.assertEqual(faults_of_source(path.read_text(encoding="utf-8")), [])

    def test_init_binds_nothing(self):
        self.assertEqual(len(ast.parse((PACKAGE / "__init__.py").read_text()).body), 1)

    def test_interface_stands_in_its_file_alone(self):
        found = []
        for path in package_files():
            for node in ast.parse(path.read_text()).body:
                if getattr(node, "name", None) == "answers":
                    found.append((path.name, [arg.arg for arg in node.args.args], node.args.defaults))
        self.assertEqual(found, [("desk.py", ["calls"], [])])

    def test_no_name_is_a_method_and_a_value(self):
        methods, values = set(), set()
        for path in package_files():
            for node in ast.walk(ast.parse(path.read_text())):
                if isinstance(node, ast.ClassDef):
                    methods |= {part.name for part in node.body if isinstance(part, ast.FunctionDef)}
                if isinstance(node, ast.Attribute) and isinstance(node.ctx, ast.Store):
                    values.add(node.attr)
        self.assertEqual(methods & values, set())

    def test_no_two_files_draw_from_one_another(self):
        drawn = {}
        for path in package_files():
            rows = [node for node in ast.parse(path.read_text()).body if isinstance(node, ast.ImportFrom)]
            drawn[path.stem] = {node.module.split(".")[1] for node in rows}
        while drawn:
            free = [name for name, others in drawn.items() if not others & set(drawn)]
            self.assertTrue(free, drawn)
            for name in free:
                drawn.pop(name)

    def test_the_check_itself_finds_faults(self):
        wrong = [
            "import os", "from . import desk", "x = 1 / 2", "x = 1.5", "def f(*xs):\n    return xs",
            "def f(xs):\n    return sum(x for x in xs)", "def f(xs):\n    return {x for x in xs}",
            "def f(x):\n    a = b = x\n    return a + b", "def f(x):\n    print(x)", "def f(id):\n    return id",
            "def f(x):\n    return x.sort()", "def f(n):\n    r = range(n)\n    return r", "x = [[1]]", "x = 1\nx = 2",
            "class C:\n    x = 1", "def f(x):\n    assert x", "def f(x):\n    global y", "# a type", "_x = 1",
            "def f(x):\n" + "    x += 1\n" * 40, "x = 1  #" + " " * 120, "x = '%'", "def f(x):\n    return x is 1",
        ]
        self.assertEqual(faults_of_source('"""Words."""\n\n\nX = (1, (2, 3))\n'), [])
        for text in wrong:
            with self.subTest(text=text):
                self.assertNotEqual(faults_of_source('"""Words."""\n' + text + "\n"), [])


if __name__ == "__main__":
    unittest.main()
