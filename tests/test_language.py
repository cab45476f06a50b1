"""That the package keeps to its part of Python: the rules of LANGUAGE.md, as far as a test can tell.

Where a rule leaves a choice that the package doesn't need (sets, a list at a file's top, annotations,
__main__.py), this is narrower than the rule.
"""

import ast
import builtins
import io
import pathlib
import re
import tokenize
import unittest

PACKAGE = "tideports"
FOLDER = pathlib.Path(__file__).resolve().parent.parent / PACKAGE

STATEMENTS = (ast.FunctionDef, ast.ClassDef, ast.ImportFrom, ast.Assign, ast.AugAssign, ast.If, ast.While, ast.For,
              ast.Return, ast.Break, ast.Continue, ast.Pass, ast.Raise, ast.Try, ast.Expr)
EXPRESSIONS = (ast.BoolOp, ast.BinOp, ast.UnaryOp, ast.Lambda, ast.IfExp, ast.Dict, ast.ListComp, ast.Compare,
               ast.Call, ast.FormattedValue, ast.JoinedStr, ast.Constant, ast.Attribute, ast.Subscript, ast.Name,
               ast.List, ast.Tuple, ast.Slice)
OPERATORS = (ast.Add, ast.Sub, ast.Mult, ast.FloorDiv, ast.Mod, ast.Pow, ast.BitAnd, ast.BitOr, ast.BitXor,
             ast.LShift, ast.RShift)
CALLED = set("""len range enumerate zip min max sum abs sorted reversed int str bool list tuple dict isinstance ord
             repr any all divmod""".split())
ERRORS = set("""Exception ValueError TypeError KeyError IndexError LookupError ZeroDivisionError ArithmeticError
             OverflowError RuntimeError NotImplementedError AttributeError StopIteration""".split())
TAKEN_ERRORS = {"KeyError", "ZeroDivisionError", "StopIteration"}
METHODS = set("""append clear copy count endswith extend find get index insert isalnum isalpha isdigit islower isspace
              isupper items join keys ljust lower lstrip partition pop remove replace reverse rfind rjust rpartition
              rsplit rstrip setdefault split splitlines startswith strip update upper values zfill
              bit_length""".split())
CHANGES = set("append clear extend insert pop remove reverse setdefault update".split())
VALUES = set("count index title find get join lower upper split strip copy add".split())
KEYWORDS = {"sorted": {"key", "reverse"}, "min": {"key", "default"}, "max": {"key", "default"}, "sum": {"start"},
            "enumerate": {"start"}, "zip": {"strict"}}
WALKED = {"zip", "enumerate", "reversed", "range"}
WALKED_METHODS = {"items", "keys", "values"}
WALKERS = {"list", "tuple", "dict", "sorted", "sum", "any", "all", "enumerate", "zip", "min", "max"}
NEVER = set("""register mro elements open input version_info with_traceback add_note format format_map""".split())
NOT_AS_NAMES = set("""attrgetter breakpoint builtins compile copyright credits delattr dir eval exec exit gc getattr
                   globals hasattr help id importlib license locals methodcaller os quit setattr super type vars
                   sys""".split())
FRAMES = re.compile("(f|tb|co|gi|cr|ag)_[a-z]+")
WORDS = re.compile(r"\b(type|typing|typing_extensions|enum|Enum|IntEnum|StrEnum|Flag|IntFlag|Generic|Protocol|ABC|"
                   r"ABCMeta|namedtuple|NamedTuple|TypedDict|TYPE_CHECKING|abstractmethod)\b|"
                   r"dataclass|overload|contextmanager")
FILES_NOT = {"test", "tests", "testing", "site", "conftest", "sitecustomize", "usercustomize", "enum", "typing"}
OWN_OF_PYTHON = set().union(*[dir(kind) for kind in (str, int, list, dict, set, bytes)])


def is_text(node):
    return isinstance(node, ast.Constant) and isinstance(node.value, str)


def is_docstring(node):
    return isinstance(node, ast.Expr) and is_text(node.value)


def is_plain(node):
    """A value that may stand at a file's top or as a default."""
    if isinstance(node, ast.UnaryOp) and isinstance(node.op, ast.USub):
        return isinstance(node.operand, ast.Constant)
    return isinstance(node, ast.Constant) or (isinstance(node, ast.Tuple) and all(is_plain(x) for x in node.elts))


def bound_names(node):
    """The names that a target binds."""
    return [part.id for part in ast.walk(node) if isinstance(part, ast.Name) and isinstance(part.ctx, ast.Store)]


class Package:
    """The package's files, by their names without .py, and what breaks a rule in them."""

    def __init__(self, sources):
        self.sources = sources
        self.found = []
        self.trees = {name: ast.parse(source) for name, source in sources.items()}
        nodes = [node for tree in self.trees.values() for node in ast.walk(tree)]
        classes = [node for node in nodes if isinstance(node, ast.ClassDef)]
        self.classes = {node.name for node in classes}
        self.errors = {node.name for node in classes if any(base.id in ERRORS for base in node.bases)}
        self.methods = {part.name for node in classes for part in node.body if isinstance(part, ast.FunctionDef)}
        self.values = {node.attr for node in nodes
                       if isinstance(node, ast.Attribute) and isinstance(node.ctx, ast.Store)}
        self.drawn = {}

    def tell(self, rule, name, node):
        self.found.append(f"{rule} {name}:{getattr(node, 'lineno', node)}")

    def judge(self):
        for name in self.sources:
            self.judge_text(name)
            self.judge_top(name)
            File(self, name).judge()
        self.judge_circles()
        return sorted(set(self.found))

    def judge_text(self, name):
        source = self.sources[name]
        lines = source.split("\n")
        if not re.fullmatch("[a-z][a-z0-9_]*|__init__", name) or name in FILES_NOT or name in dir(builtins):
            self.tell("L14", name, 0)
        if len(lines) > 401:
            self.tell("L10", name, 401)
        for number, line in enumerate(lines, start=1):
            if len(line) > 120:
                self.tell("L10", name, number)
            if re.search("[^ -~]", line):
                self.tell("L14", name, number)
            if WORDS.search(line):
                self.tell("L17", name, number)
        for token in tokenize.generate_tokens(io.StringIO(source).readline):
            if token.type == tokenize.STRING and re.search(r"\\[^nt\\'\"]|%", token.string):
                self.tell("L27", name, token.start[0])

    def judge_top(self, name):
        bound = []
        self.drawn[name] = set()
        for place, node in enumerate(self.trees[name].body):
            if isinstance(node, ast.ImportFrom):
                self.judge_import(name, node)
                bound += [alias.name for alias in node.names]
            elif isinstance(node, (ast.FunctionDef, ast.ClassDef)):
                bound.append(node.name)
            elif isinstance(node, ast.Assign) and isinstance(node.targets[0], ast.Name) and is_plain(node.value):
                bound.append(node.targets[0].id)
            elif not (place == 0 and is_docstring(node)):
                self.tell("L3", name, node)
        if len(bound) != len(set(bound)):
            self.tell("L15", name, 0)
        if name == "__init__" and set(bound) & set(self.sources):
            self.tell("L16", name, 0)

    def judge_import(self, name, node):
        package, dot, file = (node.module or "").partition(".")
        if node.level or package != PACKAGE or file not in self.sources:
            self.tell("L2", name, node)
            return
        self.drawn[name].add(file)
        own = set()
        for part in self.trees[file].body:
            if isinstance(part, (ast.FunctionDef, ast.ClassDef)):
                own.add(part.name)
            elif isinstance(part, ast.Assign):
                own.update(bound_names(part.targets[0]))
        if any(alias.name not in own or alias.asname for alias in node.names):
            self.tell("L16", name, node)

    def judge_circles(self):
        for start in self.sources:
            todo, seen = list(self.drawn[start]), set()
            while todo:
                file = todo.pop()
                if file not in seen:
                    seen.add(file)
                    todo += self.drawn[file]
            if start in seen:
                self.tell("L16", start, 0)


class File:
    """One file of the package, gone through node by node."""

    def __init__(self, package, name):
        self.package = package
        self.name = name
        self.tree = package.trees[name]
        self.parents = {child: node for node in ast.walk(self.tree) for child in ast.iter_child_nodes(node)}
        self.top = set()
        for node in self.tree.body:
            if isinstance(node, ast.ImportFrom):
                self.top.update(alias.name for alias in node.names)
            elif isinstance(node, (ast.FunctionDef, ast.ClassDef)):
                self.top.add(node.name)
            elif isinstance(node, ast.Assign):
                self.top.update(bound_names(node.targets[0]))
        self.taken = {alias.name for node in self.tree.body if isinstance(node, ast.ImportFrom)
                      for alias in node.names} | package.classes | set(dir(builtins))

    def tell(self, rule, node):
        self.package.tell(rule, self.name, node)

    def judge(self):
        for node in ast.walk(self.tree):
            if isinstance(node, ast.stmt) and not isinstance(node, STATEMENTS):
                self.tell("L6", node)
            if isinstance(node, ast.expr) and not isinstance(node, EXPRESSIONS):
                self.tell("L7", node)
            if isinstance(node, ast.operator) and not isinstance(node, OPERATORS):
                self.tell("L7", self.parents[node])
            look = getattr(self, "look_" + node.__class__.__name__, None)
            if look:
                look(node)

    def look_Import(self, node):
        self.tell("L2", node)

    def look_FunctionDef(self, node):
        args = node.args
        if args.vararg or args.kwarg or args.kwonlyargs or args.posonlyargs or node.decorator_list:
            self.tell("L4", node)
        if not all(is_plain(default) for default in args.defaults):
            self.tell("L4", node)
        if node.returns or any(arg.annotation for arg in args.args):
            self.tell("L21", node)
        if node.end_lineno - node.lineno + 1 > 40:
            self.tell("L10", node)
        inside = isinstance(self.parents[node], ast.ClassDef)
        if not (inside and node.name == "__init__"):
            self.look_name(node.name, node)
        if node.name == "__init__" and any(isinstance(part, ast.Return) and part.value for part in ast.walk(node)):
            self.tell("L28", node)
        if inside and node.name in (OWN_OF_PYTHON - METHODS - {"add", "discard", "__init__"}) | self.package.values:
            self.tell("L18" if node.name in self.package.values else "L26", node)
        if not inside and node.name in set(dir(builtins)):
            self.tell("L8", node)
        self.look_scope(node)

    def look_scope(self, node):
        """The names of a function that stands in no other."""
        chain = self.parents[node]
        while not isinstance(chain, ast.Module):
            if isinstance(chain, ast.FunctionDef):
                return
            chain = self.parents[chain]
        bound = bound_names(node) + [part.arg for part in ast.walk(node) if isinstance(part, ast.arg)]
        bound += [part.name for part in ast.walk(node) if isinstance(part, ast.ExceptHandler) and part.name]
        bound += [part.name for part in ast.walk(node) if isinstance(part, ast.FunctionDef) and part is not node]
        if set(bound) & self.taken:
            self.tell("L15", node)
        for part in ast.walk(node):
            if isinstance(part, ast.Name) and isinstance(part.ctx, ast.Load):
                if part.id not in self.top | set(bound) | CALLED | ERRORS:
                    self.tell("L8", part)
            if isinstance(part, ast.Name) and isinstance(part.ctx, ast.Store) and part.id in self.top:
                self.tell("L15", part)

    def look_ClassDef(self, node):
        names = [part.name for part in node.body if isinstance(part, ast.FunctionDef)]
        if not isinstance(self.parents[node], ast.Module):
            self.tell("L15", node)
        if node.decorator_list or node.keywords or len(node.bases) > 1:
            self.tell("L5", node)
        if any(not isinstance(part, (ast.FunctionDef, ast.Pass)) and not is_docstring(part) for part in node.body):
            self.tell("L5", node)
        if any(base.id not in self.package.classes | ERRORS - {"StopIteration", "AttributeError"}
               for base in node.bases):
            self.tell("L18", node)
        if len(names) != len(set(names)):
            self.tell("L18", node)
        self.look_name(node.name, node)

    def look_name(self, name, node):
        if not re.fullmatch("[A-Za-z][A-Za-z0-9_]*", name):
            self.tell("L12", node)
        if name in NEVER or FRAMES.fullmatch(name):
            self.tell("L17", node)

    def look_Name(self, node):
        self.look_name(node.id, node)
        self.look_bare_name(node.id, node)
        parent = self.parents[node]
        called = isinstance(parent, ast.Call) and parent.func is node
        if node.id in CALLED and isinstance(node.ctx, ast.Load) and not called:
            beside = parent.elts if isinstance(parent, ast.Tuple) else [node]
            call = self.parents[parent] if isinstance(parent, ast.Tuple) else parent
            if not (isinstance(parent, ast.keyword) and parent.arg == "key") and not (
                    isinstance(call, ast.Call) and isinstance(call.func, ast.Name) and call.func.id == "isinstance"
                    and node in beside):
                self.tell("L22", node)
        if node.id in self.package.classes and not called:
            ways = (ast.ClassDef, ast.ExceptHandler)
            asked = isinstance(parent, ast.Call) and isinstance(parent.func, ast.Name)
            if not isinstance(parent, ways) and not (asked and parent.func.id == "isinstance"):
                self.tell("L18", node)

    def look_bare_name(self, name, node):
        """A name that stands by itself, not behind a point."""
        if name in NOT_AS_NAMES:
            self.tell("L17", node)

    def look_arg(self, node):
        self.look_name(node.arg, node)
        self.look_bare_name(node.arg, node)

    def look_Attribute(self, node):
        self.look_name(node.attr, node) if node.attr != "__init__" else None
        parent = self.parents[node]
        called = isinstance(parent, ast.Call) and parent.func is node
        if isinstance(node.ctx, ast.Store):
            if not isinstance(node.value, ast.Name) or node.value.id in self.top:
                self.tell("L18", node)
            if node.attr in OWN_OF_PYTHON - VALUES or node.attr in ("sort", "args"):
                self.tell("L26", node)
        elif called:
            if node.attr not in METHODS | self.package.methods:
                self.tell("L25", node)
            if node.attr in WALKED_METHODS:
                self.look_walked(parent)
        elif node.attr not in self.package.values:
            self.tell("L25", node)

    def look_Call(self, node):
        if not isinstance(node.func, (ast.Name, ast.Attribute)):
            self.tell("L7", node)
        given = {keyword.arg for keyword in node.keywords}
        if None in given:
            self.tell("L7", node)
        if isinstance(node.func, ast.Name):
            if node.func.id in CALLED | ERRORS | self.package.errors and given - KEYWORDS.get(node.func.id, set()):
                self.tell("L22", node)
            if node.func.id in WALKED:
                self.look_walked(node)
        elif given and node.func.attr in METHODS:
            self.tell("L22", node)

    def look_walked(self, node):
        parent = self.parents[node]
        if isinstance(parent, (ast.For, ast.comprehension)) and parent.iter is node:
            return
        if isinstance(parent, ast.Call) and isinstance(parent.func, ast.Name) and parent.func.id in WALKERS:
            return
        if isinstance(parent, ast.Call) and isinstance(parent.func, ast.Attribute) and parent.func.attr == "join":
            return
        self.tell("L23", node)

    def look_For(self, node):
        if node.orelse:
            self.tell("L6", node)
        walked = {ast.dump(part) for part in ast.walk(node.iter) if isinstance(part, (ast.Name, ast.Attribute))}
        for part in [part for statement in node.body for part in ast.walk(statement)]:
            target = None
            if isinstance(part, ast.Call) and isinstance(part.func, ast.Attribute) and part.func.attr in CHANGES:
                target = part.func.value
            if isinstance(part, ast.Subscript) and isinstance(part.ctx, ast.Store):
                target = part.value
            if target is not None and ast.dump(target) in walked:
                self.tell("L23", part)

    def look_While(self, node):
        if node.orelse:
            self.tell("L6", node)

    def look_Assign(self, node):
        if len(node.targets) != 1:
            self.tell("L6", node)

    def look_Expr(self, node):
        if not isinstance(node.value, ast.Call) and not is_docstring(node):
            self.tell("L6", node)

    def look_Try(self, node):
        if node.finalbody or not node.handlers:
            self.tell("L6", node)
        for handler in node.handlers:
            kinds = handler.type.elts if isinstance(handler.type, ast.Tuple) else [handler.type]
            if any(not isinstance(kind, ast.Name) or kind.id not in self.package.errors | TAKEN_ERRORS
                   for kind in kinds):
                self.tell("L19", node)

    def look_Raise(self, node):
        if not isinstance(node.exc, ast.Call):
            self.tell("L19", node)

    def look_ListComp(self, node):
        if len(node.generators) != 1 or len(node.generators[0].ifs) > 1:
            self.tell("L7", node)

    def look_FormattedValue(self, node):
        if not isinstance(node.value, ast.Name) or node.format_spec or node.conversion not in (-1, ord("r")):
            self.tell("L7", node)

    def look_Constant(self, node):
        if node.value is not None and not isinstance(node.value, (int, str)):
            self.tell("L7", node)
        if isinstance(node.value, int) and len(str(node.value)) > 900:
            self.tell("L27", node)

    def look_Compare(self, node):
        sides = [node.left] + node.comparators
        for place, operator in enumerate(node.ops):
            named = [isinstance(side, ast.Constant) and (side.value is None or isinstance(side.value, bool))
                     for side in sides[place:place + 2]]
            if isinstance(operator, (ast.Is, ast.IsNot)) and not any(named):
                self.tell("L20", node)

    def look_BinOp(self, node):
        if isinstance(node.op, ast.Pow):
            power = node.right.value if isinstance(node.right, ast.Constant) else -1
            if not isinstance(power, int) or not 0 <= power <= 64:
                self.tell("L27", node)

    def look_Lambda(self, node):
        others = [part for part in ast.walk(self.tree) if isinstance(part, ast.Lambda) and part is not node]
        if any(part.lineno == node.lineno and ast.dump(part.args) == ast.dump(node.args) for part in others):
            self.tell("L13", node)


def rules_broken(source, **others):
    """The rules that this file breaks, beside an empty __init__.py and others."""
    return {line.split()[0] for line in Package({"__init__": "", "plain": source, **others}).judge()}


class Language(unittest.TestCase):

    def test_the_package_keeps_to_the_rules(self):
        sources = {path.stem: path.read_text(encoding="ascii") for path in FOLDER.glob("*.py")}
        self.assertIn("harbour", sources)
        self.assertIn("__init__", sources)
        self.assertEqual(Package(sources).judge(), [])

    def test_nothing_else_lies_in_the_package(self):
        others = [path.name for path in FOLDER.iterdir() if path.suffix != ".py" and path.name != "__pycache__"]
        self.assertEqual(others, [])

    def test_this_judge_lets_plain_code_pass(self):
        self.assertEqual(rules_broken(
            '"""Plain."""\n\nMOST = -3\n\n\nclass Wrong(Exception):\n    def __init__(self, place):\n'
            '        self.place = place\n\n\ndef some(rows, most=3):\n    told = {}\n'
            '    for place, each in enumerate(rows):\n        told[place] = each ** 2 % most\n'
            '    try:\n        return list(told.values()).count(MOST)\n    except Wrong as wrong:\n'
            '        raise Wrong(wrong.place)\n'), set())

    def test_this_judge_finds_what_breaks_a_rule(self):
        cases = {
            "L2": ("import re\n\n", "from re import match\n", "from . import harbour\n", "from tideports.x import y\n"),
            "L3": ("print(1)\n", "xs = [1]\n", "n = 2 + 2\n", "for x in (1, 2):\n    pass\n"),
            "L4": ("def f(*xs):\n    pass\n", "def f(**xs):\n    pass\n", "def f(*, x):\n    pass\n",
                   "def f(x=[]):\n    pass\n", "def g():\n    pass\n\n\n@g\ndef f():\n    pass\n"),
            "L5": ("class A:\n    x = 1\n", "class A(ValueError, KeyError):\n    pass\n"),
            "L6": ("def f(x):\n    del x\n", "def f(x):\n    assert x\n", "def f():\n    a = b = 1\n",
                   "def f(x):\n    for y in x:\n        pass\n    else:\n        pass\n", "def f(x):\n    x\n",
                   "def f(x):\n    with x:\n        pass\n", "def f(x):\n    while x:\n        pass\n    else:\n"
                   "        pass\n", "def f(x):\n    try:\n        pass\n    finally:\n        pass\n"),
            "L7": ("def f():\n    return 1.5\n", "def f(x):\n    return x / 2\n", "def f():\n    return b'x'\n",
                   "def f(x):\n    return {y for y in x}\n", "def f(x):\n    return (y for y in x)\n",
                   "def f(x):\n    return [y for z in x for y in z]\n", "def f(x):\n    return f'{x + 1}'\n",
                   "def f(x):\n    return f'{x:3}'\n", "def f(x):\n    return max(*x)\n", "def f():\n    yield 1\n",
                   "def f(x):\n    return (y := x)\n", "def f():\n    return {1, 2, 3}\n"),
            "L8": ("def f(x):\n    return map(x)\n", "def f(x):\n    print(x)\n", "def f(x):\n    return chr(x)\n",
                   "def f(x):\n    return unknown(x)\n"),
            "L10": ("x = " + "1" * 120 + "\n", "def f():\n" + "    pass\n" * 40, "\n" * 402),
            "L12": ("def f():\n    _x = 1\n    return _x\n", "def _f():\n    pass\n"),
            "L13": ("def f(x):\n    return [lambda y: y, lambda y: x]\n",),
            "L14": ("# \u00e9\n", "def f():\n\treturn 1\n"),
            "L15": ("x = 1\nx = 2\n", "def f(id):\n    return id\n", "def f():\n    sum = 1\n    return sum\n",
                    "x = 1\n\n\ndef f():\n    x = 2\n    return x\n"),
            "L17": ("# a type\n", "def f(x):\n    return x.open\n", "x = 'my_dataclasses'\n",
                    "def f():\n    os = 1\n    return os\n", "def f(gc):\n    return gc\n"),
            "L18": ("class A:\n    pass\n\n\ndef f():\n    return [A]\n",
                    "class A:\n    def b(self):\n        pass\n\n    def b(self):\n        pass\n",
                    "class A:\n    def b(self):\n        pass\n\n\nclass C:\n    def __init__(self):\n"
                    "        self.b = 1\n"),
            "L19": ("def f():\n    try:\n        pass\n    except Exception:\n        pass\n",
                    "def f():\n    try:\n        pass\n    except:\n        pass\n", "def f(e):\n    raise e\n"),
            "L20": ("def f(x):\n    return x is f\n",),
            "L21": ("def f(x: int):\n    pass\n", "def f() -> int:\n    pass\n"),
            "L22": ("def f():\n    return len\n", "def f(x):\n    return int(x, base=2)\n"),
            "L23": ("def f(x):\n    y = range(x)\n    return y\n", "def f(x):\n    return x.items()\n",
                    "def f(x):\n    for y in x:\n        x.append(y)\n", "def f(x):\n    for y in x:\n        x[y] = 1\n"),
            "L25": ("def f(x):\n    return x.sort()\n", "def f(x):\n    return x.append\n"),
            "L26": ("class A:\n    def __init__(self):\n        self.sort = 1\n",
                    "class A:\n    def encode(self):\n        pass\n"),
            "L27": ("def f(n):\n    return 2 ** n\n", "def f():\n    return 2 ** 65\n", "x = '%'\n", "x = '\\x41'\n"),
            "L28": ("class A:\n    def __init__(self):\n        return None\n",),
        }
        for rule, sources in cases.items():
            for source in sources:
                self.assertIn(rule, rules_broken(source), source)

    def test_this_judge_finds_circles_and_borrowed_names(self):
        there = "from tideports.other import b\n\n\ndef a():\n    return b()\n"
        back = "from tideports.plain import a\n\n\ndef b():\n    return a()\n"
        self.assertIn("L16", rules_broken(there, other=back))
        self.assertNotIn("L16", rules_broken(there, other="def b():\n    return 1\n"))
        self.assertIn("L16", rules_broken(there, other="from tideports.third import b\n", third="b = 1\n"))
        self.assertIn("L14", rules_broken("", len=""))
