"""Finds where a source leaves the part of Python that the package keeps to.

It asks for the rules that a single file shows by its shape; a rule about how values flow is left to the reader.
"""

import ast
import builtins
import re

OWN_BUILTINS = set(
    "len range enumerate zip min max sum abs sorted reversed int str bool list tuple dict set frozenset isinstance ord "
    "repr any all divmod Exception ValueError TypeError KeyError IndexError LookupError ZeroDivisionError "
    "ArithmeticError OverflowError RuntimeError NotImplementedError AttributeError StopIteration".split()
)
METHODS = set(
    "append clear copy count endswith extend find get index insert isalnum isalpha isdigit islower isspace isupper "
    "items join keys ljust lower lstrip partition pop remove replace reverse rfind rjust rpartition rsplit rstrip "
    "setdefault split splitlines startswith strip update upper values zfill bit_length".split()
)
UNDERSCORED = set("__init__ __eq__ __repr__ __str__ __len__".split())
NOT_NAMES = set(
    "register mro elements open input version_info with_traceback add_note attrgetter breakpoint builtins compile "
    "copyright credits delattr dir eval exec exit gc getattr globals hasattr help id importlib license locals "
    "methodcaller os quit setattr super type vars sys".split()
)
NOT_WORDS = re.compile(
    r"\b(type|typing|typing_extensions|enum|Enum|IntEnum|StrEnum|Flag|IntFlag|Generic|Protocol|ABC|ABCMeta|namedtuple"
    r"|NamedTuple|TypedDict|TYPE_CHECKING|abstractmethod)\b|dataclass|overload|contextmanager"
)
NOT_CAUGHT = set(
    "Exception TypeError ArithmeticError OverflowError RuntimeError NotImplementedError AttributeError".split()
)
PLAIN_NAME = re.compile(r"[A-Za-z][A-Za-z0-9_]*\Z")
FILE_NAME = re.compile(r"([a-z][a-z0-9_]*|__init__|__main__)\.py\Z")
STATEMENTS = (
    ast.Assign, ast.AugAssign, ast.If, ast.While, ast.For, ast.Return, ast.Break, ast.Continue, ast.Pass, ast.Raise,
    ast.Try, ast.Expr, ast.FunctionDef, ast.ClassDef, ast.ImportFrom,
)
EXPRESSIONS = (
    ast.Constant, ast.Name, ast.List, ast.Tuple, ast.Dict, ast.Set, ast.BinOp, ast.UnaryOp, ast.BoolOp, ast.Compare,
    ast.IfExp, ast.Call, ast.Attribute, ast.Subscript, ast.Slice, ast.ListComp, ast.JoinedStr, ast.FormattedValue,
    ast.Lambda,
)


def file_name_faults(name):
    """What is wrong with the name of a file of the package."""
    if FILE_NAME.match(name) is None or name[:-3] in dir(builtins) or name.startswith(("test", "site", "conftest")):
        return ["L14: a file called " + name]
    return []


def line_faults(source):
    """What is wrong with the signs, the words and the lengths."""
    lines = source.split("\n")
    found = ["L10: more than 399 lines"] if len(lines) > 400 else []
    for number, line in enumerate(lines, 1):
        if len(line) > 120:
            found.append("L10: line %d is too long" % number)
        if re.search(r"[^ -~]", line):
            found.append("L14: a sign in line %d" % number)
        if NOT_WORDS.search(line):
            found.append("L17: a word in line %d" % number)
    return found


def top_faults(tree):
    """What is wrong with the statements of a file's top."""
    found = []
    for place, node in enumerate(tree.body):
        text = place == 0 and isinstance(node, ast.Expr) and isinstance(node.value, ast.Constant)
        if not text and not isinstance(node, (ast.ImportFrom, ast.FunctionDef, ast.ClassDef, ast.Assign)):
            found.append("L3: line %d" % node.lineno)
    inner = [node for body in tree.body for node in ast.walk(body) if node is not body]
    return found + ["L2: an import in line %d" % node.lineno for node in inner if isinstance(node, ast.ImportFrom)]


def name_faults(node, name):
    """What is wrong with a name that is given to something."""
    if PLAIN_NAME.match(name) is None or name in dir(builtins) or name in NOT_NAMES:
        return ["L8, L12, L15, L17: the name %s in line %d" % (name, node.lineno)]
    return []


def statement_faults(node):
    """What is wrong with a statement."""
    if not isinstance(node, STATEMENTS):
        return ["L6: a statement in line %d" % node.lineno]
    wrong = False
    if isinstance(node, ast.ImportFrom):
        plain = [alias for alias in node.names if alias.name != "*" and alias.asname is None]
        wrong = node.level > 0 or not node.module.startswith("logworth.") or plain != node.names
    if isinstance(node, ast.Assign):
        wrong = len(node.targets) > 1 or isinstance(node.targets[0], (ast.Tuple, ast.List))
    if isinstance(node, (ast.For, ast.While)):
        wrong = len(node.orelse) > 0
    if isinstance(node, ast.Try):
        caught = [getattr(handler.type, "id", "Exception") for handler in node.handlers]
        wrong = len(node.finalbody) > 0 or len(NOT_CAUGHT & set(caught)) > 0
    if isinstance(node, ast.ClassDef):
        plain = all(isinstance(part, ast.FunctionDef) for part in node.body[1:])
        wrong = len(node.bases) > 1 or len(node.keywords + node.decorator_list) > 0 or not plain
    if isinstance(node, ast.FunctionDef):
        lines = node.end_lineno - node.lineno + 1
        wrong = lines > 40 or len(node.decorator_list) > 0
    return ["L2, L4, L5, L6, L10, L19: line %d" % node.lineno] if wrong else []


def expression_faults(node, own_methods):
    """What is wrong with an expression."""
    if not isinstance(node, EXPRESSIONS):
        return ["L7: an expression in line %d" % node.lineno]
    wrong = False
    if isinstance(node, ast.Constant):
        wrong = isinstance(node.value, (float, complex, bytes)) or node.value is ...
        wrong = wrong or isinstance(node.value, str) and "%" in node.value
    if isinstance(node, ast.BinOp):
        wrong = isinstance(node.op, (ast.Div, ast.MatMult))
        wrong = wrong or isinstance(node.op, ast.Pow) and not isinstance(node.right, ast.Constant)
    if isinstance(node, ast.ListComp):
        wrong = len(node.generators) > 1 or len(node.generators[0].ifs) > 1
    if isinstance(node, ast.Compare):
        beside = [isinstance(side, ast.Constant) for side in node.comparators]
        wrong = any(isinstance(op, (ast.Is, ast.IsNot)) and not plain for op, plain in zip(node.ops, beside))
    if isinstance(node, ast.Call) and isinstance(node.func, ast.Attribute):
        wrong = node.func.attr not in METHODS | own_methods | {"__init__"}
    if isinstance(node, ast.Name) and isinstance(node.ctx, ast.Load):
        wrong = node.id in dir(builtins) and node.id not in OWN_BUILTINS
    return ["L7, L8, L20, L25, L27: line %d" % node.lineno] if wrong else []


def argument_faults(arguments):
    """What is wrong with the parameters of a function."""
    if arguments.vararg or arguments.kwarg or arguments.kwonlyargs or arguments.posonlyargs:
        return ["L4: parameters"]
    return []


def node_faults(node, own_methods):
    """What is wrong with one part of a file."""
    found = []
    if isinstance(node, ast.stmt):
        found += statement_faults(node)
    if isinstance(node, ast.expr):
        found += expression_faults(node, own_methods)
    if isinstance(node, ast.arguments):
        found += argument_faults(node)
    if isinstance(node, ast.arg):
        found += name_faults(node, node.arg)
    if isinstance(node, ast.Name) and isinstance(node.ctx, ast.Store):
        found += name_faults(node, node.id)
    if isinstance(node, ast.Attribute):
        found += [] if node.attr in METHODS | UNDERSCORED else name_faults(node, node.attr)
    if isinstance(node, (ast.FunctionDef, ast.ClassDef)):
        found += [] if node.name in UNDERSCORED else name_faults(node, node.name)
    return found


def bound_names(tree):
    """The parameters and the locals of a file, each with its line."""
    found = []
    for top in tree.body:
        for node in ast.walk(top):
            if isinstance(node, ast.arg):
                found.append((node.arg, node.lineno))
            if isinstance(node, ast.Name) and isinstance(node.ctx, ast.Store) and not isinstance(top, ast.Assign):
                found.append((node.id, node.lineno))
            if isinstance(node, ast.ExceptHandler) and node.name is not None:
                found.append((node.name, node.lineno))
    return found


def hidden_faults(tree):
    """Parameters and locals that are called like an import or a class of their file."""
    taken = [alias.name for node in tree.body if isinstance(node, ast.ImportFrom) for alias in node.names]
    taken += [node.name for node in tree.body if isinstance(node, ast.ClassDef)]
    return ["L15: the name %s in line %d" % (name, line) for name, line in bound_names(tree) if name in taken]


def import_faults(trees):
    """Imports of what the other file doesn't define itself, and files that draw from one another."""
    defined = {}
    drawn = {}
    for name, tree in trees.items():
        named = [node.name for node in tree.body if isinstance(node, (ast.FunctionDef, ast.ClassDef))]
        values = [node.targets[0].id for node in tree.body if isinstance(node, ast.Assign)]
        defined[name] = named + values
        imports = [node for node in tree.body if isinstance(node, ast.ImportFrom)]
        drawn[name] = [(str(node.module).split(".")[-1] + ".py", alias.name) for node in imports for alias in node.names]
    found = []
    for name, pairs in drawn.items():
        found += ["L16: %s draws %s from %s" % (name, part, other) for other, part in pairs
                  if part not in defined.get(other, [])]
        reached = [other for other, part in pairs]
        for other in reached:
            reached += [further for further, part in drawn.get(other, []) if further not in reached]
        if name in reached:
            found.append("L16: %s draws from itself" % name)
    return found


def member_faults(trees, own_methods):
    """Methods of a class that are values of another one."""
    stored = {node.attr for tree in trees for node in ast.walk(tree)
              if isinstance(node, ast.Attribute) and isinstance(node.ctx, ast.Store)}
    return ["L18: %s is a method and a value" % name for name in sorted(stored & own_methods)]


def methods_of(trees):
    """The names of all methods of the classes."""
    classes = [node for tree in trees for node in tree.body if isinstance(node, ast.ClassDef)]
    return {part.name for node in classes for part in node.body if isinstance(part, ast.FunctionDef)}


def faults(sources):
    """What is wrong with the files of the package, which are given as a dict from name to source."""
    trees = {name: ast.parse(source) for name, source in sources.items()}
    own_methods = methods_of(trees.values())
    found = import_faults(trees) + member_faults(trees.values(), own_methods)
    for name, source in sources.items():
        here = file_name_faults(name) + line_faults(source) + top_faults(trees[name]) + hidden_faults(trees[name])
        for node in ast.walk(trees[name]):
            here += node_faults(node, own_methods)
        found += [name + ": " + fault for fault in here]
    return found
