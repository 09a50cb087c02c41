"""Holds every file of the package against the rules of LANGUAGE.md that can be seen in the text alone."""

import ast
import builtins
import pathlib
import re
import unittest

PACKAGE = pathlib.Path(__file__).resolve().parent.parent / "talehands"

BUILTINS = """len range enumerate zip min max sum abs sorted reversed int str bool bytes list tuple dict set frozenset
    isinstance ord repr any all divmod Exception ValueError TypeError KeyError IndexError LookupError
    ZeroDivisionError ArithmeticError OverflowError RuntimeError NotImplementedError AttributeError
    StopIteration""".split()
METHODS = """append clear copy count endswith extend find get index insert isalnum isalpha isdigit islower isspace
    isupper items join keys ljust lower lstrip partition pop remove replace reverse rfind rjust rpartition rsplit
    rstrip setdefault split splitlines startswith strip update upper values zfill bit_length add discard sort""".split()
DUNDERS = ["__init__", "__eq__", "__repr__", "__str__", "__len__"]
BARRED_WORDS = """type typing typing_extensions enum Enum IntEnum StrEnum Flag IntFlag Generic Protocol ABC ABCMeta
    namedtuple NamedTuple TypedDict TYPE_CHECKING abstractmethod""".split()
BARRED_PARTS = ["dataclass", "overload", "contextmanager"]
BARRED_NAMES = """register mro elements open input version_info with_traceback add_note attrgetter breakpoint builtins
    compile copyright credits delattr dir eval exec exit gc getattr globals hasattr help id importlib license locals
    methodcaller os quit setattr super type vars sys""".split()
BARRED_NODES = (ast.With, ast.Match, ast.Global, ast.Nonlocal, ast.Yield, ast.YieldFrom, ast.AsyncFunctionDef,
                ast.Await, ast.AsyncFor, ast.AsyncWith, ast.GeneratorExp, ast.NamedExpr, ast.Div, ast.Import)
ITERATED = ["zip", "enumerate", "reversed", "range"]
ITERATED_METHODS = ["items", "keys", "values"]
ITERATES = ["list", "tuple", "dict", "sorted", "sum", "any", "all", "enumerate", "zip", "bytes", "min", "max"]


def faults(name, text, package):
    """What in the text of the file breaks a rule; package are the texts of all files by name."""
    tree = ast.parse(text)
    found = text_faults(name, text) + top_faults(tree) + import_faults(tree, package)
    own = own_names(package)
    parents = {child: node for node in ast.walk(tree) for child in ast.iter_child_nodes(node)}
    for node in ast.walk(tree):
        found += [f"line {getattr(node, 'lineno', 0)}: {why}" for why in node_faults(node, parents, own)]
        if isinstance(node, (ast.FunctionDef, ast.Lambda)):
            found += function_faults(node, tree)
    return found


def own_names(package):
    """The methods that the package's classes define."""
    names = []
    for text in package.values():
        for node in ast.walk(ast.parse(text)):
            if isinstance(node, ast.ClassDef):
                names += [part.name for part in node.body if isinstance(part, ast.FunctionDef)]
    return names


def text_faults(name, text):
    found = []
    if name not in ("__init__.py", "__main__.py") and (
            not re.fullmatch(r"[a-z][a-z_0-9]*\.py", name) or name.startswith(("test", "law_", "site", "conftest"))
            or hasattr(builtins, name[:-3])):
        found.append("L14: file name")
    if re.search(r"[^ -~\n]", text):
        found.append("L14: a sign beyond the blank to ~")
    if len(text.splitlines()) > 400 or max([len(line) for line in text.splitlines()], default=0) > 120:
        found.append("L10: size")
    words = re.findall(r"\w+", text)
    found += [f"L17: {word}" for word in words if word in BARRED_WORDS or any(part in word for part in BARRED_PARTS)]
    return found


def top_faults(tree):
    found = []
    bound = []
    for at, node in enumerate(tree.body):
        if isinstance(node, (ast.FunctionDef, ast.ClassDef)):
            bound.append(node.name)
        elif isinstance(node, ast.ImportFrom):
            bound += [part.asname or part.name for part in node.names]
            if any(not isinstance(other, (ast.ImportFrom, ast.Expr)) for other in tree.body[:at]):
                found.append("L2: an import that isn't at the top")
        elif isinstance(node, ast.Assign) and len(node.targets) == 1 and isinstance(node.targets[0], ast.Name):
            bound.append(node.targets[0].id)
            if any(isinstance(part, (ast.Call, ast.ListComp, ast.Set)) for part in ast.walk(node.value)):
                found.append("L3: no plain value")
        elif at > 0 or not isinstance(node, ast.Expr) or not isinstance(node.value, ast.Constant):
            found.append("L3: a statement at module level")
    if len(bound) != len(set(bound)):
        found.append("L15: a name bound twice")
    return found


def import_faults(tree, package):
    found = []
    for node in ast.walk(tree):
        if isinstance(node, ast.ImportFrom):
            module = node.module or ""
            if node.level or not module.startswith("talehands.") or module[10:] + ".py" not in package:
                found.append(f"L2: import from {module}")
                continue
            there = [getattr(part, "name", None) for part in ast.parse(package[module[10:] + ".py"]).body]
            assigned = [part.targets[0].id for part in ast.parse(package[module[10:] + ".py"]).body
                        if isinstance(part, ast.Assign)]
            found += [f"L16: {part.name}" for part in node.names if part.name not in there + assigned]
    return found


def node_faults(node, parents, own):
    if isinstance(node, BARRED_NODES):
        yield f"L6, L7: {type(node).__name__}"
    if isinstance(node, (ast.For, ast.While)) and node.orelse:
        yield "L6: else after a loop"
    if isinstance(node, ast.Constant) and isinstance(node.value, (float, complex)):
        yield "L7: float"
    if isinstance(node, ast.Constant) and isinstance(node.value, str) and "%" in node.value:
        yield "L27: a percent sign"
    if isinstance(node, ast.Starred) and not isinstance(node.ctx, ast.Store):
        yield "L7: star"
    if isinstance(node, ast.FormattedValue) and node.format_spec:
        yield "L7: format"
    if isinstance(node, ast.Compare):
        for way, side in zip(node.ops, node.comparators):
            if isinstance(way, (ast.Is, ast.IsNot)) and not (isinstance(side, ast.Constant)
                                                             and side.value in (None, True, False)):
                yield "L20: is"
    if isinstance(node, ast.Name) and hasattr(builtins, node.id):
        if node.id not in BUILTINS or isinstance(node.ctx, ast.Store):
            yield f"L8, L15: {node.id}"
    yield from name_faults(node, own)
    yield from call_faults(node, parents, own)
    if isinstance(node, ast.ClassDef) and (node.decorator_list or len(node.bases) > 1 or node.keywords):
        yield "L5: class"
    if isinstance(node, ast.ExceptHandler) and (node.type is None or getattr(node.type, "id", "") in (
            "Exception", "TypeError")):
        yield "L19: except"
    if isinstance(node, ast.Raise) and node.exc is not None and not isinstance(node.exc, ast.Call):
        yield "L19: raise"


def name_faults(node, own):
    name = getattr(node, "id", None) or getattr(node, "arg", None) or getattr(node, "name", None)
    if isinstance(node, (ast.Name, ast.arg, ast.FunctionDef, ast.ClassDef, ast.alias)):
        if name.startswith("_") and name not in DUNDERS or name in BARRED_NAMES:
            yield f"L8, L12, L17: {name}"
    if isinstance(node, ast.arg) and hasattr(builtins, name):
        yield f"L15: {name}"
    if isinstance(node, ast.Attribute) and node.attr.startswith("_") and node.attr not in DUNDERS:
        yield f"L12: {node.attr}"


def call_faults(node, parents, own):
    if not isinstance(node, ast.Call):
        return
    parent = parents[node]
    on_the_spot = (isinstance(parent, (ast.For, ast.comprehension)) and parent.iter is node
                   or isinstance(parent, ast.Call) and getattr(parent.func, "id", "") in ITERATES)
    if isinstance(node.func, ast.Name):
        if node.func.id in ITERATED and not on_the_spot:
            yield f"L23: {node.func.id}"
    elif isinstance(node.func, ast.Attribute):
        if node.func.attr not in METHODS + DUNDERS + own:
            yield f"L25: {node.func.attr}"
        if node.func.attr in ITERATED_METHODS and not on_the_spot:
            yield f"L23: {node.func.attr}"
        if node.keywords and node.func.attr not in own + ["sort"]:
            yield f"L25: keywords of {node.func.attr}"
    else:
        yield "L3: what is called has no name"


def function_faults(node, tree):
    found = []
    if node.args.vararg or node.args.kwarg or node.args.posonlyargs or getattr(node, "decorator_list", []):
        found.append(f"L4: line {node.lineno}")
    if isinstance(node, ast.FunctionDef) and node.end_lineno - node.lineno + 1 > 40:
        found.append(f"L10: {node.name}")
    taken = [part.name for part in tree.body if isinstance(part, ast.ClassDef)]
    taken += [part.name for other in tree.body if isinstance(other, ast.ImportFrom) for part in other.names]
    local = [part.arg for part in ast.walk(node) if isinstance(part, ast.arg)]
    local += [part.id for part in ast.walk(node) if isinstance(part, ast.Name) and isinstance(part.ctx, ast.Store)]
    return found + [f"L15: {name}" for name in local if name in taken]


class Language(unittest.TestCase):

    def test_the_folder_has_only_files_of_the_program(self):
        others = [path.name for path in PACKAGE.iterdir() if path.suffix != ".py" and path.name != "__pycache__"]
        self.assertEqual(others, [])
        self.assertTrue((PACKAGE / "__init__.py").exists())

    def test_every_file(self):
        package = {path.name: path.read_text(encoding="utf-8") for path in PACKAGE.glob("*.py")}
        self.assertLessEqual(len(package), 100)
        for name, text in sorted(package.items()):
            with self.subTest(name):
                self.assertEqual(faults(name, text, package), [])

    def test_no_two_files_import_from_each_other(self):
        imports = {}
        for path in PACKAGE.glob("*.py"):
            tree = ast.parse(path.read_text(encoding="utf-8"))
            imports[path.stem] = [node.module[10:] for node in ast.walk(tree) if isinstance(node, ast.ImportFrom)]
        while imports:
            free = [name for name in imports if not any(other in imports for other in imports[name])]
            self.assertNotEqual(free, [], sorted(imports))
            for name in free:
                del imports[name]

    def test_faults_are_found(self):
        for text in ("import os\n", "from os import path\n", "def f(*a):\n    pass\n", "def f():\n    yield 1\n",
                     "def f(x):\n    return x / 2\n", "def f(x):\n    return any(y for y in x)\n", "X = len('a')\n",
                     "def f(x):\n    return x is x\n", "def f(min):\n    return min\n", "def f(x):\n    x.union(x)\n",
                     "def f(x):\n    y = zip(x, x)\n    return y\n", "def f(x):\n    return print(x)\n", "# type\n",
                     "def f():\n    _ = 1\n", "def f():\n    return 1.5\n", "X = 1\nX = 2\n", "def f(x):\n\treturn x\n",
                     "def f():\n" + "    pass\n" * 40, "X = 'a" + " " * 120 + "'\n", "X = '%'\n", "f()\n"):
            with self.subTest(text):
                self.assertNotEqual(faults("some.py", text, {"some.py": text}), [])


if __name__ == "__main__":
    unittest.main()
