"""The package's form: the rules of its language that can be told from the source alone.

They also hold the last row of point [1]: with no import from outside and no name but the listed
ones, there is no clock, no chance and no file within reach.
"""

import ast
import builtins
import os
import re
import unittest

PACKAGE = os.path.join(os.path.dirname(os.path.dirname(os.path.abspath(__file__))), "endbook")

PYTHONS_NAMES = set(
    """len range enumerate zip min max sum abs sorted reversed int str bool list tuple dict set frozenset
    isinstance ord repr any all divmod Exception ValueError TypeError KeyError IndexError LookupError
    ZeroDivisionError ArithmeticError OverflowError RuntimeError NotImplementedError AttributeError
    StopIteration""".split()
)
PYTHONS_METHODS = set(
    """append clear copy count endswith extend find get index insert isalnum isalpha isdigit islower isspace
    isupper items join keys ljust lower lstrip partition pop remove replace reverse rfind rjust rpartition
    rsplit rstrip setdefault split splitlines startswith strip update upper values zfill bit_length""".split()
)
# Walked on the spot, not kept (L23).
WALKED = {"zip", "enumerate", "reversed", "range"}
KEYWORDS = {
    "sorted": {"key", "reverse"},
    "min": {"key", "default"},
    "max": {"key", "default"},
    "sum": {"start"},
    "enumerate": {"start"},
    "zip": {"strict"},
}
CLASS_METHODS = {"__init__", "__eq__", "__repr__", "__str__", "__len__"}
BARRED_NAMES = set(
    """register mro elements open input version_info with_traceback add_note format format_map attrgetter
    breakpoint builtins compile copyright credits delattr dir eval exec exit gc getattr globals hasattr help
    id importlib license locals methodcaller os quit setattr super type vars sys time random""".split()
)
BARRED_WORDS = re.compile(
    r"\b(type|typing|typing_extensions|enum|Enum|IntEnum|StrEnum|Flag|IntFlag|Generic|Protocol|ABC|ABCMeta"
    r"|namedtuple|NamedTuple|TypedDict|TYPE_CHECKING|abstractmethod)\b|dataclass|overload|contextmanager"
)
NODES = set(
    """Module FunctionDef arguments arg Return ClassDef Assign AugAssign If While For Break Continue Pass
    Raise Try ExceptHandler Expr Constant List Tuple Dict Set BinOp UnaryOp BoolOp Compare IfExp Call keyword
    Attribute Subscript Slice ListComp comprehension JoinedStr FormattedValue Lambda Name Load Store
    ImportFrom alias Add Sub Mult FloorDiv Mod Pow BitAnd BitOr BitXor LShift RShift Invert Not USub UAdd Eq
    NotEq Lt LtE Gt GtE Is IsNot In NotIn And Or""".split()
)


def faults(source):
    """What in the source lies outside the rules, as short texts; none where it keeps to them."""
    tree = ast.parse(source)
    found = faults_of_signs(source) + faults_of_the_top(tree) + faults_of_locals(tree)
    methods = PYTHONS_METHODS | {"add", "discard", "__init__"}
    methods |= {node.name for node in ast.walk(tree) if isinstance(node, ast.FunctionDef)}
    for node in ast.walk(tree):
        found += [f"row {getattr(node, 'lineno', 0)}: {fault}" for fault in faults_of_node(node, methods)]
    return found


def faults_of_signs(source):
    found = []
    rows = source.split("\n")
    if len(rows) > 401:
        found.append("more than 400 rows")
    for number, row in enumerate(rows, start=1):
        if len(row) > 120:
            found.append(f"row {number}: more than 120 signs")
        if re.search(r"[^ -~]", row):
            found.append(f"row {number}: a sign beyond the blank to the tilde")
        if BARRED_WORDS.search(row):
            found.append(f"row {number}: a barred word")
    return found


def faults_of_the_top(tree):
    found = []
    bound = []
    for node in tree.body:
        if isinstance(node, (ast.FunctionDef, ast.ClassDef)):
            bound.append(node.name)
        elif isinstance(node, ast.Assign):
            bound += [target.id for target in node.targets if isinstance(target, ast.Name)]
        elif isinstance(node, ast.ImportFrom):
            bound += [alias.asname or alias.name for alias in node.names]
        elif not (isinstance(node, ast.Expr) and node is tree.body[0]):
            found.append(f"row {node.lineno}: something is done at the file's top")
    if len(bound) != len(set(bound)):
        found.append("a name is bound twice at the file's top")
    inner = [node for node in ast.walk(tree) if isinstance(node, (ast.ImportFrom, ast.ClassDef))]
    if [node for node in inner if node not in tree.body]:
        found.append("an import or a class below the file's top")
    return found


def faults_of_locals(tree):
    """No parameter and no local is called like a class or an import of its file."""
    kept = {node.name for node in tree.body if isinstance(node, ast.ClassDef)}
    for node in tree.body:
        if isinstance(node, ast.ImportFrom):
            kept |= {alias.asname or alias.name for alias in node.names}
    bound = {node.arg for node in ast.walk(tree) if isinstance(node, ast.arg)}
    bound |= {node.id for node in ast.walk(tree) if isinstance(node, ast.Name) and isinstance(node.ctx, ast.Store)}
    return [f"{name} is bound anew" for name in sorted(kept & bound)]


def faults_of_call(node, methods):
    if isinstance(node.func, ast.Attribute):
        return [] if node.func.attr in methods else [f"the method {node.func.attr}"]
    if isinstance(node.func, ast.Name) and node.func.id in PYTHONS_NAMES:
        given = {keyword.arg for keyword in node.keywords} - KEYWORDS.get(node.func.id, set())
        return [f"the keyword {keyword} at {node.func.id}" for keyword in sorted(given)]
    return []


def faults_of_is(node):
    """`is` stands beside None, True and False alone."""
    found = []
    for operator, side in zip(node.ops, node.comparators):
        if isinstance(operator, (ast.Is, ast.IsNot)):
            if not (isinstance(side, ast.Constant) and (side.value is None or isinstance(side.value, bool))):
                found.append("an is beside something else than None, True and False")
    return found


def is_walked(node):
    return isinstance(node, ast.Call) and isinstance(node.func, ast.Name) and node.func.id in WALKED


def faults_of_node(node, methods):
    found = []
    if node.__class__.__name__ not in NODES:
        found.append(f"{node.__class__.__name__} is no part of the language")
    if isinstance(node, ast.FunctionDef):
        found += faults_of_def(node)
    elif isinstance(node, ast.ClassDef):
        if node.decorator_list or node.keywords or len(node.bases) > 1:
            found.append("no plain class")
    elif isinstance(node, ast.ImportFrom):
        if node.level or not node.module.startswith("endbook.") or node.names[0].name == "*":
            found.append("an import of something else than the package's own names")
    elif isinstance(node, ast.Name):
        found += faults_of_name(node)
    elif isinstance(node, ast.arg):
        found += faults_of_binding(node.arg)
    elif isinstance(node, ast.Attribute):
        if node.attr in BARRED_NAMES or (node.attr.startswith("_") and node.attr != "__init__"):
            found.append(f"the attribute {node.attr}")
    elif isinstance(node, ast.Call):
        found += faults_of_call(node, methods)
    elif isinstance(node, ast.Compare):
        found += faults_of_is(node)
    elif isinstance(node, ast.Constant):
        if not (node.value is None or isinstance(node.value, (int, str))):
            found.append(f"the value {node.value!r}")
        if isinstance(node.value, str) and "%" in node.value:
            found.append("a percent sign within a text")
    else:
        found += faults_of_statement(node)
    return found


def faults_of_def(node):
    found = faults_of_binding(node.name) if node.name not in CLASS_METHODS else []
    plain = node.args
    if plain.vararg or plain.kwarg or plain.kwonlyargs or plain.posonlyargs or node.decorator_list:
        found.append(f"{node.name} has more than plain parameters")
    if node.end_lineno - node.lineno >= 40:
        found.append(f"{node.name} has more than 40 rows")
    return found


def faults_of_name(node):
    if isinstance(node.ctx, ast.Store):
        return faults_of_binding(node.id)
    if node.id in BARRED_NAMES or (hasattr(builtins, node.id) and node.id not in PYTHONS_NAMES):
        return [f"the name {node.id}"]
    return []


def faults_of_binding(name):
    if name.startswith("_") or hasattr(builtins, name) or name in BARRED_NAMES:
        return [f"{name} is bound"]
    return []


def faults_of_statement(node):
    found = []
    if isinstance(node, (ast.For, ast.While)) and node.orelse:
        found.append("an else behind a loop")
    if isinstance(node, ast.Assign) and len(node.targets) > 1:
        found.append("more than one target")
    if isinstance(node, (ast.Assign, ast.Return)) and is_walked(node.value):
        found.append("kept, and not walked on the spot")
    if isinstance(node, ast.Set):
        found.append("a set is kept")
    if isinstance(node, ast.Try) and node.finalbody:
        found.append("a finally")
    if isinstance(node, ast.ExceptHandler) and node.type is None:
        found.append("an except without a name")
    if isinstance(node, ast.ListComp) and (len(node.generators) > 1 or len(node.generators[0].ifs) > 1):
        found.append("more than one for or if in a comprehension")
    if isinstance(node, ast.Expr) and not isinstance(node.value, (ast.Call, ast.Constant)):
        found.append("a value by itself")
    return found


def package_files():
    """Path and source of each file of the package; what Python itself leaves there is passed over."""
    for folder, folders, names in os.walk(PACKAGE):
        folders[:] = sorted(name for name in folders if name != "__pycache__")
        for name in sorted(names):
            path = os.path.join(folder, name)
            with open(path, encoding="utf-8", newline="") as file:
                yield os.path.relpath(path, PACKAGE), file.read()


class TheForm(unittest.TestCase):
    def test_the_files_are_plainly_named_and_python(self):
        names = [name for name, source in package_files()]
        self.assertIn("__init__.py", names)
        for name in names:
            self.assertRegex(name, r"^(__init__|[a-z][a-z0-9_]*)\.py$")
            self.assertNotRegex(name, r"^(test|site|conftest|usercustomize)")
            if name != "__init__.py":
                self.assertFalse(hasattr(builtins, name[: -len(".py")]), name)

    def test_the_sources_keep_to_the_rules(self):
        for name, source in package_files():
            with self.subTest(name):
                self.assertEqual(faults(source), [])

    def test_the_package_itself_binds_no_name(self):
        source = dict(package_files())["__init__.py"]
        self.assertEqual([node for node in ast.parse(source).body if not isinstance(node, ast.Expr)], [])

    def test_imports_are_from_the_very_file_and_never_round(self):
        trees = {name[: -len(".py")]: ast.parse(source) for name, source in package_files()}
        drawn = {name: [] for name in trees}
        for name, tree in trees.items():
            for node in tree.body:
                if isinstance(node, ast.ImportFrom):
                    source = node.module[len("endbook.") :]
                    drawn[name].append(source)
                    defined = {top.name for top in trees[source].body if hasattr(top, "name")}
                    self.assertLessEqual({alias.name for alias in node.names}, defined, name)
        while drawn:
            free = [name for name in drawn if not set(drawn[name]) & set(drawn)]
            self.assertNotEqual(free, [], "some files draw from one another")
            for name in free:
                drawn.pop(name)

    def test_what_lies_outside_is_seen(self):
        for source in (
            "import time\n",
            "import os\n",
            "from random import choice\n",
            "from .errors import NoWord\n",
            "from endbook.errors import *\n",
            "def f(path):\n    return open(path)\n",
            "def f(path):\n    return __import__(path)\n",
            "def f(path):\n    return f.__globals__\n",
            "def f(text):\n    return text.encode()\n",
            "def f(text):\n    return len(text) / 2\n",
            "def f(text):\n    return 0.5\n",
            "def f(*texts):\n    return texts\n",
            "def f(min):\n    return min\n",
            "def f():\n    a = b = 1\n    return a\n",
            "def f():\n    for k in [1]:\n        pass\n    else:\n        pass\n",
            "def f():\n    yield 1\n",
            "def f():\n    from endbook.errors import NoWord\n    return 1\n",
            "def f():\n    return 1\n\n\ndef f():\n    return 2\n",
            "def f():\n" + "    pass\n" * 40,
            "f = len('a')\n\n\nprint(f)\n",
            "# its type\n",
            "# \u00e4\n",
            "def f():\n\tpass\n",
            "if True:\n    pass\n",
            "from endbook.ends import ends\n\n\ndef f(ends):\n    return ends\n",
            "from endbook.errors import NoWord\n\n\ndef f():\n    NoWord = 1\n    return NoWord\n",
            "def f(a, b):\n    return a is b\n",
            "def f(a):\n    b = range(a)\n    return list(b)\n",
            "def f(a):\n    return zip(a, a)\n",
            "def f(a):\n    return {1, a}\n",
            "def f(a):\n    return int(a, base=2)\n",
            "# " + "a" * 119 + "\n",
            "# a\n" * 401,
        ):
            with self.subTest(source[:60]):
                self.assertNotEqual(faults(source), [])


if __name__ == "__main__":
    unittest.main()
