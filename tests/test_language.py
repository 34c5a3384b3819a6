"""Checks the files of the package against the rules of LANGUAGE.md, L1 to L28.

The package keeps to less than the rules allow: what is not listed here as
allowed is a finding, also where a rule would let it stand under conditions.
Who needs such a thing reads the rule, and then writes a check of it here.
"""

import ast
import builtins
import pathlib
import re
import unittest
import warnings

PACKAGE = pathlib.Path(__file__).resolve().parent.parent / "showtree"
PLAIN_FILE = re.compile("[a-z][a-z0-9_]*[.]py|__init__[.]py")
PLAIN_NAME = re.compile("_?[A-Za-z][A-Za-z0-9_]*|_")

# L4 to L7, L13, L19, L21: no other kind of node stands in a file. So there is no lambda, set, float division,
# exponent, generator, try, with, match, del, global, nonlocal, annotation, star or walrus.
NODES = set("""
    Module Expr Constant FunctionDef arguments arg ClassDef Return Assign AugAssign For While If Raise Break Continue
    Pass Call keyword Name Load Store Attribute Subscript Slice BinOp UnaryOp BoolOp Compare IfExp And Or Not USub
    Add Sub Mult FloorDiv Mod Eq NotEq Lt LtE Gt GtE Is IsNot In NotIn Tuple List Dict ListComp DictComp GeneratorExp
    comprehension JoinedStr FormattedValue ImportFrom alias""".split())
# L8, without those of which the use is bound to more rules.
CALLED = set("""
    len range enumerate zip min max sum abs sorted reversed int str bool list tuple dict isinstance ord repr any all
    divmod""".split())
ERRORS = {"Exception", "ValueError", "TypeError", "KeyError", "IndexError", "LookupError", "ZeroDivisionError",
          "ArithmeticError", "OverflowError", "RuntimeError", "NotImplementedError"}
KEYWORDS = {"sorted": {"key", "reverse"}, "min": {"key", "default"}, "max": {"key", "default"}, "sum": {"start"},
            "enumerate": {"start"}, "zip": {"strict"}}
# L25, L26.
METHODS = set("""
    append clear copy count endswith extend find get index insert isalnum isalpha isdigit islower isspace isupper items
    join keys ljust lower lstrip partition pop remove replace reverse rfind rjust rpartition rsplit rstrip setdefault
    split splitlines startswith strip update upper values zfill bit_length""".split())
MODIFYING = {"append", "clear", "extend", "insert", "pop", "remove", "reverse", "setdefault", "update"}
ONLY_ITERATED = {"zip", "enumerate", "reversed", "range"}
VIEWS = {"items", "keys", "values"}
ITERATING = {"list", "tuple", "dict", "sorted", "sum", "any", "all", "enumerate", "zip", "min", "max"}
# L17, and the names that L12 keeps for others.
BARRED = set("""
    register mro elements open input law version_info with_traceback add_note attrgetter breakpoint builtins compile
    copyright credits delattr dir eval exec exit gc getattr globals hasattr help id importlib license locals
    methodcaller os quit setattr super type vars sys format format_map""".split())
BARRED_STARTS = ("_wall", "_pe_", "_dcw_", "_enum_", "_cm_", "_twin_re_", "_lay_", "_law_", "_stub_", "_sre",
                 "_WallAttr", "_cold", "_tuplegetter", "_outside", "_record", "_written_out", "_member_names", "__")
BARRED_WORDS = re.compile(
    r"\b(type|typing|typing_extensions|enum|Enum|IntEnum|StrEnum|Flag|IntFlag|Generic|Protocol|ABC|ABCMeta|namedtuple"
    r"|NamedTuple|TypedDict|TYPE_CHECKING|abstractmethod)\b|dataclass|overload|contextmanager|_wall|_WallAttr")
INTERFACE = {
    "errors": ["ShowError", "Unread", "TooLarge", "NoWorld"],
    "statements": ["is_name", "is_statement", "parts"],
    "texts": ["written", "read"],
    "worlds": ["is_tree", "above", "holds"],
    "showings": ["follows", "faults", "shows"],
    "search": ["theory"],
    "telling": ["told", "is_shown"],
}


def kind(node):
    return node.__class__.__name__


def nodes(tree, *kinds):
    return [node for node in ast.walk(tree) if isinstance(node, kinds)]


def is_docstring(node):
    return isinstance(node, ast.Expr) and isinstance(node.value, ast.Constant) and isinstance(node.value.value, str)


def docstrings(tree):
    owners = nodes(tree, ast.Module, ast.FunctionDef, ast.ClassDef)
    return [owner.body[0].value for owner in owners if owner.body and is_docstring(owner.body[0])]


def is_plain(node, names=()):
    """A value that is written out: a literal, or a list, tuple or dict of such (and of the names told)."""
    if isinstance(node, ast.Constant):
        return node.value is None or type(node.value) in (int, str, bytes, bool)
    if isinstance(node, ast.UnaryOp):
        return isinstance(node.op, ast.USub) and is_plain(node.operand)
    if isinstance(node, (ast.List, ast.Tuple)):
        return all(is_plain(item, names) for item in node.elts)
    if isinstance(node, ast.Dict):
        return all(key is not None and is_plain(key) for key in node.keys) and \
            all(is_plain(value, names) for value in node.values)
    return isinstance(node, ast.Name) and node.id in names


def bound_at_top(tree):
    """Each name that a file binds at module level, as often as it does, with the node that binds it."""
    found = []
    for node in tree.body:
        if isinstance(node, ast.ImportFrom):
            found += [(row.asname or row.name, node) for row in node.names]
        elif isinstance(node, (ast.FunctionDef, ast.ClassDef)):
            found.append((node.name, node))
        elif isinstance(node, ast.Assign):
            found += [(target.id, node) for target in node.targets if isinstance(target, ast.Name)]
    return found


class File:
    def __init__(self, name, source):
        self.name = name
        self.source = source
        with warnings.catch_warnings(record=True) as warned:
            warnings.simplefilter("always")
            self.tree = ast.parse(source)
            compile(source, name, "exec")
        self.warned = warned


class Package:
    """All files, by their names without the ending."""

    def __init__(self, sources):
        self.files = {name: File(name, source) for name, source in sources.items()}

    def functions(self):
        """Own functions and classes by name, with the parameters that a call passes."""
        found = {}
        for file in self.files.values():
            for node in nodes(file.tree, ast.FunctionDef):
                found[node.name] = node.args
            for node in nodes(file.tree, ast.ClassDef):
                inits = [row.args for row in node.body if isinstance(row, ast.FunctionDef) and row.name == "__init__"]
                found[node.name] = inits[0] if inits else None
        return found

    def methods(self):
        return {row.name for file in self.files.values() for node in nodes(file.tree, ast.ClassDef)
                for row in node.body if isinstance(row, ast.FunctionDef)}

    def error_classes(self):
        found = set(ERRORS)
        for _ in range(3):
            for file in self.files.values():
                for node in nodes(file.tree, ast.ClassDef):
                    if any(isinstance(base, ast.Name) and base.id in found for base in node.bases):
                        found.add(node.name)
        return found


def check_nodes(package, file):
    for node in ast.walk(file.tree):
        if kind(node) not in NODES:
            yield "L4-L7", node, kind(node)
        if isinstance(node, ast.Constant) and type(node.value) not in (int, str, bytes, bool, type(None)):
            yield "L7", node, "a literal that is no integer, string, bytes, truth or None"


def check_imports(package, file):
    body = [node for node in file.tree.body if not is_docstring(node)]
    ahead = True
    for node in body:
        ahead = ahead and isinstance(node, ast.ImportFrom)
        if isinstance(node, ast.ImportFrom) and not ahead:
            yield "L2", node, "an import that does not stand at the top"
    for node in nodes(file.tree, ast.ImportFrom):
        source = (node.module or "").partition("showtree.")[2]
        if node not in body or node.level or source not in package.files or node.module != "showtree." + source:
            yield "L2", node, "an import from elsewhere"
            continue
        own = {name for name, row in bound_at_top(package.files[source].tree) if not isinstance(row, ast.ImportFrom)}
        for row in node.names:
            if row.name not in own:
                yield "L16", node, "an import from a file that does not define the name"


def imported_files(package, name, seen):
    for node in nodes(package.files[name].tree, ast.ImportFrom):
        source = (node.module or "").partition("showtree.")[2]
        if source in package.files and source not in seen:
            seen.add(source)
            imported_files(package, source, seen)
    return seen


def check_circles(package, file):
    if file.name in imported_files(package, file.name, set()):
        yield "L16", file.tree, "files that import from each other"


def check_top(package, file):
    functions = [node.name for node in file.tree.body if isinstance(node, ast.FunctionDef)]
    for number, node in enumerate(file.tree.body):
        if isinstance(node, (ast.ImportFrom, ast.FunctionDef, ast.ClassDef)) or (number == 0 and is_docstring(node)):
            continue
        if not isinstance(node, ast.Assign) or len(node.targets) != 1 or not isinstance(node.targets[0], ast.Name) \
                or not is_plain(node.value, functions):
            yield "L3", node, "at module level something else than a plain value"
            continue
        inner = nodes(node.value, ast.List, ast.Dict)
        if [row for row in inner if row is not node.value]:
            yield "L15", node, "a list or dict inside a value at module level"
    seen = set()
    for name, node in bound_at_top(file.tree):
        if name in seen:
            yield "L15", node, "a name that is bound twice"
        seen.add(name)


def check_functions(package, file):
    for node in nodes(file.tree, ast.FunctionDef):
        given = node.args
        if node.decorator_list or given.vararg or given.kwarg or given.kwonlyargs or given.posonlyargs:
            yield "L4", node, "a decorator, a star or a slash"
        if not all(is_plain(row) and not isinstance(row, (ast.List, ast.Dict)) for row in given.defaults):
            yield "L4", node, "a default value that is not plain"
        if node.returns or [row for row in given.args if row.annotation]:
            yield "L21", node, "an annotation"
        inner = [row for row in ast.walk(node) if row is not node and isinstance(row, (ast.FunctionDef, ast.ClassDef))]
        if inner:
            yield "L4", node, "something defined in a function"
        if node.end_lineno - node.lineno >= 40:
            yield "L10", node, "a function of more than 40 lines"


def check_classes(package, file):
    errors = package.error_classes()
    for node in nodes(file.tree, ast.ClassDef):
        if node not in file.tree.body or node.decorator_list or node.keywords or len(node.bases) > 1:
            yield "L5", node, "a class that is nested or decorated, or has several bases"
        methods = [row for row in node.body if isinstance(row, ast.FunctionDef)]
        if [row for row in node.body if row not in methods and not is_docstring(row) and not isinstance(row, ast.Pass)]:
            yield "L5", node, "in a class something else than methods"
        if len({row.name for row in methods}) < len(methods):
            yield "L18", node, "a method that is defined twice"
        for row in methods:
            if row.name.startswith("__") and row.name != "__init__":
                yield "L5", row, "a method with two underscores"
            if row.name == "__init__" and [back for back in nodes(row, ast.Return) if back.value is not None]:
                yield "L28", row, "an __init__ that returns something"
            if row.name in METHODS or row.name in VIEWS or not row.args.args:
                yield "L26", row, "a method with the name of a builtin one, or without its object"
        if node.name in errors and methods:
            yield "L18", node, "an error class with methods"
        own = {name for name, row in bound_at_top(file.tree)} | ERRORS
        if [base for base in node.bases if not isinstance(base, ast.Name) or base.id not in own]:
            yield "L5", node, "a base class that is no own class and no error class"


def named(tree):
    """Each name that a file gives or uses, with its node; attributes count."""
    found = []
    for node in ast.walk(tree):
        for field in ("id", "name", "asname", "arg", "attr"):
            name = getattr(node, field, None)
            if isinstance(name, str):
                found.append((name, node))
    return found


def given_names(tree):
    """Each name of a variable, a parameter, a function or a class, with its node."""
    found = []
    for node in ast.walk(tree):
        if isinstance(node, ast.Name) and isinstance(node.ctx, ast.Store):
            found.append((node.id, node))
        elif isinstance(node, (ast.FunctionDef, ast.ClassDef)):
            found.append((node.name, node))
        elif isinstance(node, ast.arg):
            found.append((node.arg, node))
    return found


def check_names(package, file):
    top = dict(bound_at_top(file.tree))
    for name, node in named(file.tree):
        if isinstance(node, ast.FunctionDef) and name == "__init__":
            continue
        if name in BARRED or name.startswith(BARRED_STARTS):
            yield "L12, L17", node, "a barred name: " + name
        if not PLAIN_NAME.fullmatch(name):
            yield "L12", node, "a name that is not plain: " + name
    for name, node in given_names(file.tree):
        if name in dir(builtins):
            yield "L8, L15", node, "the name of a builtin: " + name
        owner = top.get(name)
        if isinstance(owner, (ast.ClassDef, ast.ImportFrom)) and owner is not node:
            yield "L15", node, "the name of a class or an import: " + name
    for node in nodes(file.tree, ast.Name):
        if isinstance(node.ctx, ast.Load) and node.id == "_":
            yield "L12", node, "_ is read"


def check_builtins(package, file):
    known = {name for name, _ in bound_at_top(file.tree)} | {name for name, _ in given_names(file.tree)}
    called = [node.func for node in nodes(file.tree, ast.Call)]
    tested = [row for node in nodes(file.tree, ast.Call) if kind(node.func) == "Name" and node.func.id == "isinstance"
              for row in ast.walk(node.args[1])]
    bases = [base for node in nodes(file.tree, ast.ClassDef) for base in node.bases]
    for node in nodes(file.tree, ast.Name):
        if node.id in known or node in tested:
            continue
        if node.id in ERRORS:
            if node not in called and node not in bases:
                yield "L18", node, "an error class as a value"
        elif node.id not in CALLED:
            yield "L8", node, "no builtin that is allowed: " + node.id
        elif node not in called:
            yield "L22", node, "a builtin that is not called: " + node.id


def check_calls(package, file):
    own = package.functions()
    methods = package.methods()
    for node in nodes(file.tree, ast.Call):
        if [row for row in node.keywords if row.arg is None] or not isinstance(node.func, (ast.Name, ast.Attribute)):
            yield "L7", node, "a call with a star, or of something else than a name"
            continue
        name = node.func.id if isinstance(node.func, ast.Name) else node.func.attr
        words = {row.arg for row in node.keywords}
        if name in own:
            yield from check_own_call(node, own[name], isinstance(node.func, ast.Attribute), words)
        elif isinstance(node.func, ast.Name) and not words <= KEYWORDS.get(name, set()):
            yield "L22", node, "a keyword that the builtin does not take here"
        elif isinstance(node.func, ast.Attribute):
            if name not in METHODS | methods:
                yield "L25", node, "a method that is not allowed: " + name
            if words:
                yield "L25", node, "a keyword with a method of a builtin value"
    called = [node.func for node in nodes(file.tree, ast.Call)]
    stored = {node.attr for each in package.files.values() for node in nodes(each.tree, ast.Attribute)
              if isinstance(node.ctx, ast.Store)}
    for node in nodes(file.tree, ast.Attribute):
        if node not in called and node.attr not in stored:
            yield "L18, L25", node, "an attribute that no class assigns: " + node.attr
        if node.attr in stored and node.attr in METHODS:
            yield "L26", node, "an attribute with the name of a builtin method: " + node.attr


def check_own_call(node, given, is_method, words):
    if given is None:
        if node.keywords:
            yield "L22", node, "a keyword for a class without __init__"
        return
    names = [row.arg for row in given.args]
    if is_method or names[:1] == ["self"]:
        names = names[1:]
    passed = names[:len(node.args)] + sorted(words)
    needed = names[:len(names) - len(given.defaults)]
    if len(node.args) > len(names) or len(set(passed)) < len(passed) or not set(needed) <= set(passed) <= set(names):
        yield "L22", node, "more or less than the function takes"


def check_raises(package, file):
    errors = package.error_classes()
    for node in nodes(file.tree, ast.Raise):
        made = node.exc
        if not isinstance(made, ast.Call) or kind(made.func) != "Name" or made.func.id not in errors or node.cause:
            yield "L19", node, "an error that is not created on the spot"


def check_identity(package, file):
    for node in nodes(file.tree, ast.Compare):
        sides = [node.left, *node.comparators]
        for number, sign in enumerate(node.ops):
            if isinstance(sign, (ast.Is, ast.IsNot)):
                pair = sides[number:number + 2]
                if not [row for row in pair if isinstance(row, ast.Constant) and row.value in (None, True, False)]:
                    yield "L20", node, "is between other things than None, True and False"


def root(node):
    """The name, attribute or item over which a loop goes, written out; of enumerate(xs), xs.items() too."""
    if isinstance(node, ast.Call) and isinstance(node.func, ast.Name) and node.args and node.func.id in ONLY_ITERATED:
        return [written for row in node.args for written in root(row)]
    if isinstance(node, ast.Call) and isinstance(node.func, ast.Attribute) and node.func.attr in VIEWS:
        return root(node.func.value)
    return [ast.unparse(node)] if isinstance(node, (ast.Name, ast.Attribute, ast.Subscript)) else []


def modified(node):
    """What a row of code modifies, written out."""
    found = []
    for row in ast.walk(node):
        if isinstance(row, ast.Call) and isinstance(row.func, ast.Attribute) and row.func.attr in MODIFYING:
            found.append(ast.unparse(row.func.value))
        elif isinstance(row, ast.Subscript) and isinstance(row.ctx, ast.Store):
            found.append(ast.unparse(row.value))
        elif isinstance(row, ast.AugAssign):
            found.append(ast.unparse(row.target))
    return found


def check_loops(package, file):
    gone_over = []
    for node in nodes(file.tree, ast.For):
        gone_over.append(node.iter)
        if set(root(node.iter)) & {name for row in node.body for name in modified(row)}:
            yield "L23", node, "a loop that modifies what it goes over"
    for node in nodes(file.tree, ast.ListComp, ast.DictComp, ast.GeneratorExp):
        heads = [row.iter for row in node.generators]
        gone_over += heads
        if {name for row in heads for name in root(row)} & set(modified(node)):
            yield "L23", node, "a comprehension that modifies what it goes over"
    for node in nodes(file.tree, ast.Call):
        if isinstance(node.func, ast.Name) and node.func.id in ITERATING:
            gone_over += node.args
    for node in nodes(file.tree, ast.GeneratorExp):
        if node not in gone_over and not is_joined(file.tree, node):
            yield "L7, L23", node, "a generator expression that is not gone over at once"
    for node in nodes(file.tree, ast.Call):
        word = node.func.id if isinstance(node.func, ast.Name) else ""
        view = node.func.attr if isinstance(node.func, ast.Attribute) else ""
        if (word in ONLY_ITERATED or view in VIEWS) and node not in gone_over:
            yield "L23", node, "something that is not gone over at once"


def is_joined(tree, node):
    """Whether a node is what the join of a literal is passed."""
    for call in nodes(tree, ast.Call):
        if isinstance(call.func, ast.Attribute) and call.func.attr == "join" and call.args == [node]:
            return isinstance(call.func.value, ast.Constant)
    return False


def check_kept_lists(package, file):
    """L15: a list or dict at module level is only read: by an index, in, a loop, len or get."""
    kept = {name for name, node in bound_at_top(file.tree)
            if isinstance(node, ast.Assign) and isinstance(node.value, (ast.List, ast.Dict))}
    read = []
    for node in ast.walk(file.tree):
        if isinstance(node, ast.Subscript) and isinstance(node.ctx, ast.Load):
            read.append(node.value)
        elif isinstance(node, ast.Compare):
            read += node.comparators
        elif isinstance(node, (ast.For, ast.comprehension)):
            read.append(node.iter)
        elif isinstance(node, ast.Call) and isinstance(node.func, ast.Name) and node.func.id in CALLED:
            read += node.args
        elif isinstance(node, ast.Attribute) and node.attr in VIEWS | {"get", "index", "count", "copy"}:
            read.append(node.value)
    for node in nodes(file.tree, ast.Name):
        if node.id in kept and isinstance(node.ctx, ast.Load) and node not in read:
            yield "L15", node, "a list or dict at module level that is not just read"


def check_strings(package, file):
    told = docstrings(file.tree)
    for node in nodes(file.tree, ast.Constant):
        text = node.value
        if not isinstance(text, str) or node in told:
            continue
        if chr(37) in text or text.endswith(("._", ".__")) or "__" in text or BARRED_WORDS.search(text):
            yield "L17, L27", node, "a string with a sign or a word that is barred"
    for node in nodes(file.tree, ast.FormattedValue):
        if node.conversion != -1 or node.format_spec or nodes(node.value, ast.Constant, ast.JoinedStr) and \
                [row for row in nodes(node.value, ast.Constant) if isinstance(row.value, (str, bytes))]:
            yield "L7, L27", node, "in an f-string a format or a string"
    for node in nodes(file.tree, ast.Constant):
        if isinstance(node.value, int) and abs(node.value) >= 10 ** 900:
            yield "L27", node, "a number of more than 900 digits"


def check_source(package, file):
    rows = file.source.split("\n")
    if len(rows) > 400 or rows[-1] or max(len(row) for row in rows) > 120:
        yield "L10", file.tree, "more than 399 lines, a line of more than 120 signs, or no line end at the end"
    if [sign for sign in file.source if sign != "\n" and not " " <= sign <= "~"]:
        yield "L14", file.tree, "a sign that is none from the blank to ~"
    if re.search(r"\\[^nt\\'\"]", file.source):
        yield "L27", file.tree, "an escape that is not allowed"
    code = file.source
    for text in docstrings(file.tree):
        code = code.replace(text.value, "")
    code = "\n".join(row.partition("#")[0] if "\"" not in row and "'" not in row else row for row in code.split("\n"))
    if BARRED_WORDS.search(code):
        yield "L17", file.tree, "a word that is barred"
    if file.warned:
        yield "L27", file.tree, "a line for which Python gives a warning"


CHECKS = (check_nodes, check_imports, check_circles, check_top, check_functions, check_classes, check_names,
          check_builtins, check_calls, check_raises, check_identity, check_loops, check_kept_lists, check_strings,
          check_source)


def findings(sources):
    package = Package(sources)
    found = []
    for file in package.files.values():
        for check in CHECKS:
            for rule, node, words in check(package, file):
                found.append(f"{rule}: {file.name}.py:{getattr(node, 'lineno', 1)}: {words}")
    return found


class PackageTest(unittest.TestCase):
    def sources(self):
        return {path.stem: path.read_text(encoding="utf-8") for path in sorted(PACKAGE.glob("*.py"))}

    def test_the_folder_holds_plain_files_only(self):
        names = [path.name for path in PACKAGE.iterdir() if path.name != "__pycache__"]
        self.assertIn("__init__.py", names)
        for name in names:
            self.assertTrue(PLAIN_FILE.fullmatch(name), name)
            self.assertNotIn(name.removesuffix(".py"), set(dir(builtins)) | BARRED)

    def test_the_rules_hold_for_every_file(self):
        self.assertEqual(findings(self.sources()), [])

    def test_the_interface_is_defined_in_its_files(self):
        for name, wanted in INTERFACE.items():
            tree = ast.parse(self.sources()[name])
            defined = [node.name for node in tree.body if isinstance(node, (ast.FunctionDef, ast.ClassDef))]
            for word in wanted:
                self.assertEqual(defined.count(word), 1, word)

    def test_no_file_hides_one_of_the_package(self):
        for name in self.sources():
            self.assertNotIn(name, {"test", "tests", "testing", "site", "conftest", "sitecustomize", "usercustomize"})


GOOD = '"""A file."""\n\nLIMIT = 3\n\n\ndef low(n):\n    return n < LIMIT\n'

# A row of code that breaks a rule; HEAD is put ahead of those that stand in a function.
BAD_TOP = [
    ("L4-L7", "import sys"), ("L2", "from showtree import low"), ("L2", "from .other import low"),
    ("L2", "from os.path import join"), ("L16", "from showtree.other import high"),
    ("L2", "LIMIT = 1\nfrom showtree.other import low"), ("L3", "LIMIT = len('ab')"), ("L3", "print('a')"),
    ("L3", "A, B = 1, 2"), ("L3", "A = B = 1"), ("L3", "if True:\n    A = 1"), ("L15", "A = 1\nA = 2"),
    ("L15", "ROWS = [[1], [2]]"), ("L4", "@low\ndef high(n):\n    return n"), ("L4", "def high(*n):\n    return n"),
    ("L4", "def high(n=[]):\n    return n"), ("L21", "def high(n: int):\n    return n"),
    ("L4", "def high(n):\n    def inner():\n        return 1\n    return inner()"),
    ("L10", "def high(n):\n" + "    n = n + 1\n" * 40), ("L10", "LIMIT = '" + "a" * 120 + "'"),
    ("L5", "class Box:\n    N = 1\n    def many(self):\n        return 1"),
    ("L5", "class Box:\n    def __hash__(self):\n        return 1"), ("L5", "class Box(dict):\n    pass"),
    ("L28", "class Box:\n    def __init__(self):\n        return None"),
    ("L18", "class Box:\n    def a(self):\n        return 1\n    def a(self):\n        return 2"),
    ("L26", "class Box:\n    def append(self, n):\n        return n"),
    ("L18, L25", "class Box:\n    def many(self):\n        return self.rows"),
    ("L15", "ROWS = [1]\ndef high(n):\n    ROWS.append(n)"), ("L15", "ROWS = [1]\ndef high(n):\n    return ROWS"),
    ("L15", "ROWS = {}\ndef high(n):\n    ROWS[n] = 1"),
    ("L15", "class Box:\n    pass\n\n\ndef high(Box):\n    return Box"), ("L14", "# \u00e4"), ("L14", "LIMIT =\t1"),
]
BAD_ROWS = [
    ("L4-L7", "return lambda x: x"), ("L4-L7", "return {1, 2}"), ("L4-L7", "return n / 2"), ("L4-L7", "return n ** 2"),
    ("L4-L7", "del n[0]"), ("L4-L7", "yield n"), ("L4-L7", "global LIMIT"), ("L4-L7", "n: int = 1"),
    ("L4-L7", "try:\n        n = 1\n    finally:\n        n = 2"), ("L4-L7", "with n:\n        pass"),
    ("L4-L7", "return [*n]"), ("L4-L7", "return {m for m in n}"), ("L7", "return 1.5"),
    ("L8", "return set(n)"), ("L8", "return hash(n)"), ("L8", "print(n)"), ("L8", "return iter(n)"),
    ("L8, L15", "list = n"), ("L12, L17", "id = n"), ("L12, L17", "_wall = n"), ("L12, L17", "__x = n"),
    ("L12", "_ = n\n    return _"), ("L22", "return [len, n]"), ("L22", "return sorted(n, default=1)"),
    ("L22", "return low()"), ("L22", "return low(n, n)"), ("L22", "return low(m=n)"), ("L25", "return n.encode()"),
    ("L25", "n.sort(key=1)"), ("L25", "return n.split(sep=',')"), ("L19", "raise n"), ("L19", "raise low(n)"),
    ("L19", "raise ValueError"), ("L20", "return n is low(n)"), ("L23", "for m in n:\n        n.append(m)"),
    ("L23", "for k, m in enumerate(n):\n        n[k] = m"), ("L23", "for k in n.items():\n        n.pop(k)"),
    ("L23", "return range(n)"), ("L23", "return n.items()"), ("L23", "return [n.pop() for m in n]"),
    ("L7, L23", "return (m for m in n)"), ("L17, L27", "return 'a" + chr(37) + "'"), ("L17, L27", "return '__a__'"),
    ("L17, L27", "return 'enum'"), ("L7, L27", "return f'{n!r}'"), ("L7, L27", "return f'{n:>5}'"),
    ("L27", "return '\\x41'"), ("L18, L25", "return n.many"), ("L27", "return 1if n else 2"), ("L18", "return ValueError"),
]


class CheckTest(unittest.TestCase):
    """Each check finds what it is there for."""

    def assert_found(self, rule, source):
        found = findings({"other": GOOD, "bad": source})
        self.assertTrue([row for row in found if row.startswith(rule + ": bad.py")], (rule, source, found))

    def test_nothing_is_found_where_nothing_is_bad(self):
        self.assertEqual(findings({"other": GOOD, "bad": "from showtree.other import low\n\n\ndef high(n):\n"
                                                         "    return not low(n)\n"}), [])

    def test_at_module_level(self):
        for rule, row in BAD_TOP:
            with self.subTest(row=row):
                self.assert_found(rule, row + "\n")

    def test_in_a_function(self):
        for rule, row in BAD_ROWS:
            with self.subTest(row=row):
                self.assert_found(rule, f"from showtree.other import low\n\n\ndef high(n):\n    {row}\n")

    def test_circles(self):
        one = "from showtree.two import b\n\n\ndef a(n):\n    return b(n)\n"
        two = "from showtree.one import a\n\n\ndef b(n):\n    return a(n)\n"
        self.assertEqual(len([row for row in findings({"one": one, "two": two}) if row.startswith("L16")]), 2)


if __name__ == "__main__":
    unittest.main()
