"""Hold the files of a package against what is mechanical in LANGUAGE.md.

Usage: python3 .ci/language.py FOLDER

Checked are the files (L1, L14), the sizes (L10), the characters (L14), the imports
(L2, L16), what stands at module level (L3), the statements (L6), the builtins (L8), the
names that are bound twice at module level or would hide a builtin, an import or a class
(L15), names and words that are barred (L17), floats and divisions (L7), the methods that
are called (L25), and % and escapes in strings (L27). Each fault is printed with its file,
line and rule; the exit code is 1 if there is one.
"""

import ast
import builtins
import re
import sys
from pathlib import Path

MOST_FILES = 100
MOST_FILE_LINES = 399
MOST_FUNCTION_LINES = 40
MOST_LINE = 120

LIBRARY = {
    "__future__": ("annotations",),
    "collections": ("defaultdict", "deque"),
    "heapq": ("heapify", "heappop", "heappush", "heappushpop", "heapreplace"),
    "itertools": (
        "accumulate", "chain", "combinations", "islice", "pairwise", "permutations", "product", "zip_longest",
    ),
    "math": ("comb", "factorial", "gcd", "isqrt", "lcm", "perm"),
}

ERRORS = (
    "ArithmeticError", "AttributeError", "Exception", "IndexError", "KeyError", "LookupError",
    "NotImplementedError", "OverflowError", "RuntimeError", "StopIteration", "TypeError", "ValueError",
    "ZeroDivisionError",
)

# chr is missing: L27 takes it out of L8's list again.
FREE = ERRORS + (
    "abs", "all", "any", "bool", "bytes", "dict", "divmod", "enumerate", "frozenset", "int", "isinstance",
    "len", "list", "max", "min", "ord", "pow", "range", "repr", "reversed", "set", "sorted", "str", "sum",
    "tuple", "zip",
)

CALLED = ("getattr", "hasattr", "iter", "map", "next", "setattr")
DECORATORS = ("classmethod", "property", "staticmethod")
BUILTINS = tuple(sorted(dir(builtins)))

# L17: what is no name anywhere, and what is neither a name nor a word in a string.
BARRED_NAMES = (
    "add_note", "elements", "input", "law", "mro", "open", "register", "version_info", "with_traceback",
)
BARRED_WORDS = (
    "ABC", "ABCMeta", "Enum", "Flag", "Generic", "IntEnum", "IntFlag", "NamedTuple", "Protocol", "StrEnum",
    "TYPE_CHECKING", "TypedDict", "abstractmethod", "enum", "namedtuple", "typing", "typing_extensions",
)

# L25, and what L2, L7 and L24 add for deques, bytes and sets.
METHODS = (
    "append", "clear", "copy", "count", "endswith", "extend", "find", "get", "index", "insert", "isalnum", "isalpha",
    "isdigit", "islower", "isspace", "isupper", "items", "join", "keys", "ljust", "lower", "lstrip", "partition",
    "pop", "remove", "replace", "reverse", "rfind", "rjust", "rpartition", "rsplit", "rstrip", "setdefault", "split",
    "splitlines", "startswith", "strip", "update", "upper", "values", "zfill", "bit_length", "title", "capitalize",
    "swapcase", "casefold", "center", "expandtabs", "removeprefix", "removesuffix", "rindex", "isascii", "isdecimal",
    "isnumeric", "istitle", "isidentifier", "isprintable", "translate", "maketrans", "sort", "format", "encode",
    "decode", "hex", "from_bytes", "add", "discard", "appendleft", "popleft", "extendleft", "rotate", "from_iterable",
)

# What no file or folder may be called, beside test_.. and law_.. (L14, L17).
BARRED_FILES = BUILTINS + (
    "add_note", "conftest", "elements", "input", "law", "mro", "open", "register", "site", "sitecustomize",
    "test", "testing", "tests", "usercustomize", "version_info", "with_traceback",
)


def faults_of(folder):
    """Return the faults of the package in a folder, each as (file, line, rule, words)."""
    folder = Path(folder)
    faults = file_faults(folder)
    trees = {}
    for path in sources(folder):
        data = path.read_bytes()
        faults += [(path, *fault) for fault in character_faults(data)]
        try:
            trees[path] = ast.parse(data)
        except (SyntaxError, ValueError) as error:
            faults.append((path, getattr(error, "lineno", None) or 1, "L1", "is no Python"))
            continue
        faults += [(path, *fault) for fault in size_faults(data.decode("utf-8"), trees[path])]
        faults += [(path, *fault) for fault in module_faults(trees[path], path.name)]
        faults += [(path, *fault) for fault in statement_faults(trees[path])]
        faults += [(path, *fault) for fault in builtin_faults(trees[path], path.name)]
        faults += [(path, *fault) for fault in binding_faults(trees[path])]
        faults += [(path, *fault) for fault in hiding_faults(trees[path])]
        faults += [(path, *fault) for fault in word_faults(trees[path])]
        faults += [(path, *fault) for fault in value_faults(data.decode("utf-8"), trees[path])]
    faults += import_faults(folder, trees)
    faults += method_faults(trees)
    return sorted(faults, key=lambda fault: (str(fault[0]), fault[1], fault[2], fault[3]))


def entries(folder):
    """Return all files and folders of the package, but for what Python itself puts there."""
    return [path for path in sorted(folder.rglob("*")) if "__pycache__" not in path.parts]


def sources(folder):
    return [path for path in entries(folder) if path.is_file() and path.suffix == ".py"]


# L1, L14: files.

def file_faults(folder):
    faults = []
    paths = entries(folder)
    files = [path for path in paths if path.is_file()]
    if not files:
        faults.append((folder, 1, "L1", "is no package"))
    if len(files) > MOST_FILES:
        faults.append((folder, 1, "L14", f"has more than {MOST_FILES} files"))
    for path in [folder] + [path for path in paths if path.is_dir()]:
        if not (path / "__init__.py").is_file():
            faults.append((path, 1, "L14", "has no __init__.py"))
        if path.with_suffix(".py").is_file():
            faults.append((path, 1, "L14", "has the name of a file beside it"))
    if folder.name in sys.stdlib_module_names:
        faults.append((folder, 1, "L14", "has the name of a module of the standard library"))
    for path in paths:
        faults += [(path, 1, rule, words) for rule, words in name_faults(folder, path)]
    return faults


def name_faults(folder, path):
    if path.is_file() and path.suffix != ".py":
        return [("L1", "is no .py file")]
    if path.name == "__init__.py":
        return []
    if path.name == "__main__.py":
        return [] if path.parent == folder else [("L14", "stands not at the top of the package")]
    name = path.stem if path.is_file() else path.name
    if not re.fullmatch("[a-z][a-z0-9_]*", name):
        return [("L1", "has no plain lower-case name")]
    if name in BARRED_FILES or name.startswith(("law_", "test_")):
        return [("L14", "has a name that is barred")]
    return []


# L10, L14: sizes and characters.

def character_faults(data):
    faults = []
    for at, line in enumerate(data.split(b"\n"), 1):
        if b"\t" in line:
            faults.append((at, "L10", "has a tab"))
        if any(not 32 <= sign <= 126 for sign in line.replace(b"\t", b"")):
            faults.append((at, "L14", "has a character that is not from the space to ~"))
    return faults


def size_faults(source, tree):
    faults = []
    lines = source.removesuffix("\n").split("\n")
    if len(lines) > MOST_FILE_LINES:
        faults.append((len(lines), "L10", f"the file has more than {MOST_FILE_LINES} lines"))
    for at, line in enumerate(lines, 1):
        if len(line) > MOST_LINE:
            faults.append((at, "L10", f"the line has more than {MOST_LINE} characters"))
    for node in ast.walk(tree):
        if isinstance(node, (ast.FunctionDef, ast.AsyncFunctionDef)):
            first = min([node.lineno] + [decorator.lineno for decorator in node.decorator_list])
            if node.end_lineno - first + 1 > MOST_FUNCTION_LINES:
                faults.append((first, "L10", f"{node.name} has more than {MOST_FUNCTION_LINES} lines"))
    return faults


# L2, L16: imports.

def import_faults(folder, trees):
    faults = []
    ways = {}
    for path, tree in trees.items():
        ways[path] = []
        for line, rule, words in place_faults(tree):
            faults.append((path, line, rule, words))
        for node in ast.walk(tree):
            if isinstance(node, ast.Import):
                if path != folder / "__main__.py" or [(a.name, a.asname) for a in node.names] != [("sys", None)]:
                    faults.append((path, node.lineno, "L2", "import without from"))
            if isinstance(node, ast.ImportFrom):
                faults += [(path, node.lineno, *fault) for fault in from_faults(folder, node, trees)]
                ways[path] += imported_files(folder, path, node, trees)
    for path in trees:
        if leads_to(ways, path, path):
            faults.append((path, 1, "L16", "imports itself through other files"))
    return faults


def place_faults(tree):
    """Find the imports that do not stand at the top of their file."""
    top = 0
    if tree.body and is_docstring(tree.body[0]):
        top = 1
    while top < len(tree.body) and isinstance(tree.body[top], (ast.Import, ast.ImportFrom)):
        top += 1
    at_top = tree.body[:top]
    for node in ast.walk(tree):
        if isinstance(node, (ast.Import, ast.ImportFrom)) and node not in at_top:
            yield node.lineno, "L2", "an import that does not stand at the top"


def is_docstring(node):
    return isinstance(node, ast.Expr) and isinstance(node.value, ast.Constant) and isinstance(node.value.value, str)


def from_faults(folder, node, trees):
    if node.level > 0:
        return [("L2", "an import with a leading dot")]
    names = [alias.name for alias in node.names]
    if "*" in names:
        return [("L2", "import *")]
    if node.module in LIBRARY:
        wrong = [name for name in names if name not in LIBRARY[node.module]]
        renamed = [alias.name for alias in node.names if alias.asname is not None]
        return [("L2", f"{name} may not be imported so") for name in wrong + renamed]
    if node.module.split(".")[0] != folder.name:
        return [("L2", f"{node.module} is not of the package")]
    target = file_of(folder, node.module)
    if target not in trees:
        return [("L16", f"there is no file for {node.module}")]
    if target.name == "__main__.py":
        return [("L2", "__main__ is imported")]
    defined = defined_names(trees[target])
    return [("L16", f"{node.module} does not define {name}") for name in names if name not in defined]


def file_of(folder, module):
    """Return the file of a module of the package, whether there is one or not."""
    path = folder.joinpath(*module.split(".")[1:])
    return path / "__init__.py" if path.is_dir() else path.with_suffix(".py")


def imported_files(folder, path, node, trees):
    """Return the files that an import reads, with each __init__.py above them."""
    if node.level > 0 or node.module.split(".")[0] != folder.name:
        return []
    words = node.module.split(".")
    files = [file_of(folder, ".".join(words[:count])) for count in range(1, len(words) + 1)]
    # An __init__.py is there before the files below it are read: it does not import itself.
    return [found for found in files if found in trees and found != path or found == files[-1]]


def defined_names(tree):
    """Return the names that a file binds itself at module level, imports left out."""
    names = []
    for node in tree.body:
        if isinstance(node, (ast.FunctionDef, ast.ClassDef)):
            names.append(node.name)
        if isinstance(node, ast.Assign):
            names += [target.id for target in node.targets if isinstance(target, ast.Name)]
        if isinstance(node, ast.AnnAssign) and isinstance(node.target, ast.Name):
            names.append(node.target.id)
    return names


def leads_to(ways, start, goal):
    """Tell whether imports lead from one file to another one, by one import or more."""
    seen = set()
    waiting = list(ways[start])
    while waiting:
        path = waiting.pop()
        if path == goal:
            return True
        if path not in seen:
            seen.add(path)
            waiting += ways.get(path, [])
    return False


# L3, L6, L15: what stands at module level, and statements.

def module_faults(tree, file_name):
    functions = []
    bound = []
    for node in tree.body:
        if isinstance(node, (ast.Import, ast.ImportFrom)) or node is tree.body[0] and is_docstring(node):
            names = [bound_names(alias)[0] for alias in getattr(node, "names", [])]
        elif isinstance(node, (ast.FunctionDef, ast.ClassDef)):
            names = [node.name]
            functions += names if isinstance(node, ast.FunctionDef) else []
        elif file_name == "__main__.py" and node is tree.body[-1] and isinstance(node, ast.If):
            names = []
        else:
            names = plainly_assigned(node, functions)
            if not names:
                yield node.lineno, "L3", "no plain value that is assigned to one name"
        yield from ((node.lineno, "L15", f"{name} is bound twice") for name in names if name in bound)
        bound += names


def plainly_assigned(node, functions):
    """Return the one name that a statement gives a plain value, in a list, or an empty list."""
    targets = getattr(node, "targets", [getattr(node, "target", None)])
    if not isinstance(node, (ast.Assign, ast.AnnAssign)) or len(targets) != 1 or not isinstance(targets[0], ast.Name):
        return []
    return [targets[0].id] if is_plain(node.value, functions, inside=False) else []


def is_plain(node, functions, inside=True):
    if isinstance(node, ast.Constant):
        return True
    if isinstance(node, ast.Name):
        return inside and node.id in functions
    if isinstance(node, ast.UnaryOp):
        return is_plain(node.operand, functions, inside=False)
    if isinstance(node, ast.BinOp):
        return is_plain(node.left, functions, inside=False) and is_plain(node.right, functions, inside=False)
    if isinstance(node, (ast.List, ast.Tuple)):
        return all(is_plain(item, functions) for item in node.elts)
    if isinstance(node, ast.Dict):
        return all(is_plain(item, functions) for item in node.keys + node.values)
    return False


def statement_faults(tree):
    for node in ast.walk(tree):
        if isinstance(node, (ast.AsyncFunctionDef, ast.AsyncFor, ast.AsyncWith, ast.Await)):
            yield node.lineno, "L6", "async"
        if isinstance(node, ast.Expr) and not isinstance(node.value, (ast.Call, ast.Yield, ast.YieldFrom)):
            if not is_docstring(node):
                yield node.lineno, "L6", "an expression that does nothing"
        if isinstance(node, ast.ExceptHandler) and node.type is None:
            yield node.lineno, "L6", "except without an error"


def method_faults(trees):
    """Find the calls of methods that are neither the package's own nor among those that may be called."""
    own = set()
    for node in (node for tree in trees.values() for node in ast.walk(tree)):
        if isinstance(node, ast.FunctionDef):
            own.add(node.name)
        if isinstance(node, ast.Attribute) and not isinstance(node.ctx, ast.Load):
            own.add(node.attr)
    for path, tree in trees.items():
        for node in ast.walk(tree):
            if not isinstance(node, ast.Call) or not isinstance(node.func, ast.Attribute):
                continue
            name = node.func.attr
            known = name in METHODS or name in own or name == "__init__"
            if not known and not (path.name == "__main__.py" and name in ("exit", "read", "readline", "write", "flush")):
                yield path, node.lineno, "L25", f"the method {name}"


# L8, L15: builtins.

def builtin_faults(tree, file_name):
    above = {child: node for node in ast.walk(tree) for child in ast.iter_child_nodes(node)}
    noted = annotation_names(tree)
    for node in ast.walk(tree):
        if not isinstance(node, ast.Name) or not isinstance(node.ctx, ast.Load):
            continue
        if node.id in BUILTINS and node.id not in FREE and not may_stand(node, above, noted, file_name):
            yield node.lineno, "L8", f"the builtin {node.id}"


def annotation_names(tree):
    """Return the nodes that stand in annotations."""
    nodes = []
    for node in ast.walk(tree):
        for note in (getattr(node, "annotation", None), getattr(node, "returns", None)):
            if isinstance(note, ast.AST):
                nodes += list(ast.walk(note))
    return nodes


def may_stand(node, above, noted, file_name):
    """Tell whether a builtin that is only allowed in some places stands in one of them."""
    parent = above[node]
    called = isinstance(parent, ast.Call) and parent.func is node
    if node.id == "print":
        return file_name == "__main__.py"
    if node.id == "__name__":
        return file_name == "__main__.py" and isinstance(parent, ast.Compare)
    if node.id in ("float", "object"):
        return node in noted
    if node.id == "NotImplemented":
        return isinstance(parent, ast.Return)
    if node.id in CALLED:
        return called
    if node.id in DECORATORS:
        return node in getattr(parent, "decorator_list", [])
    if node.id == "super":
        return called and isinstance(above[parent], ast.Attribute)
    if node.id == "type":
        return called and isinstance(above[parent], (ast.Compare, ast.Attribute))
    return False


def binding_faults(tree):
    """Find the names that are given to something and are those of builtins."""
    methods = [node for kind in ast.walk(tree) if isinstance(kind, ast.ClassDef) for node in kind.body]
    for node in ast.walk(tree):
        for name in bound_names(node):
            if name not in BUILTINS:
                continue
            # A method may have the name of a builtin that L8 does not list.
            if node in methods and isinstance(node, ast.FunctionDef) and name not in FREE + CALLED + ("chr", "print"):
                continue
            yield getattr(node, "lineno", 1), "L15", f"{name} is the name of a builtin"


def bound_names(node):
    if isinstance(node, (ast.FunctionDef, ast.AsyncFunctionDef, ast.ClassDef)):
        return [node.name]
    if isinstance(node, ast.Name) and not isinstance(node.ctx, ast.Load):
        return [node.id]
    if isinstance(node, ast.arg):
        return [node.arg]
    if isinstance(node, ast.alias):
        return [node.asname or node.name]
    if isinstance(node, (ast.ExceptHandler, ast.MatchAs, ast.MatchStar)):
        return [node.name] if node.name else []
    return []


def hiding_faults(tree):
    """Find the names inside of functions that are those of imports or classes of the file."""
    taken = set()
    for node in tree.body:
        if isinstance(node, (ast.Import, ast.ImportFrom)):
            taken.update(alias.asname or alias.name for alias in node.names)
        if isinstance(node, ast.ClassDef):
            taken.add(node.name)
    methods = [node for kind in ast.walk(tree) if isinstance(kind, ast.ClassDef) for node in kind.body]
    for node in ast.walk(tree):
        if isinstance(node, ast.alias) or node in tree.body or node in methods:
            continue
        for name in bound_names(node):
            if name in taken:
                yield getattr(node, "lineno", 1), "L15", f"{name} is the name of an import or a class of the file"


# L7, L17, L27: names, words and values.

def word_faults(tree):
    written = docstrings(tree)
    for node in ast.walk(tree):
        names = used_names(node)
        for name in names:
            if name in BARRED_NAMES:
                yield getattr(node, "lineno", 1), "L17", f"the name {name}"
        if isinstance(node, ast.Constant) and isinstance(node.value, str) and node not in written:
            names = re.findall("[A-Za-z0-9_]+", node.value)
        for name in names:
            if name in BARRED_WORDS or re.search("dataclass|overload|contextmanager", name):
                yield getattr(node, "lineno", 1), "L17", f"the word {name}"


def used_names(node):
    """Return the names that a node binds or reads."""
    if isinstance(node, ast.Name):
        return [node.id]
    if isinstance(node, ast.Attribute):
        return [node.attr]
    if isinstance(node, ast.keyword):
        return [node.arg] if node.arg else []
    return bound_names(node)


def docstrings(tree):
    """Return the nodes of the docstrings."""
    kinds = (ast.Module, ast.ClassDef, ast.FunctionDef)
    heads = [node.body[0] for node in ast.walk(tree) if isinstance(node, kinds) and node.body]
    return [head.value for head in heads if is_docstring(head)]


def value_faults(source, tree):
    written = docstrings(tree)
    for node in ast.walk(tree):
        if isinstance(node, (ast.BinOp, ast.AugAssign)) and isinstance(node.op, (ast.Div, ast.MatMult)):
            yield node.lineno, "L7", "a sign that is not allowed"
        if not isinstance(node, ast.Constant):
            continue
        if isinstance(node.value, (float, complex)):
            yield node.lineno, "L7", "a number that is no integer"
        if isinstance(node.value, str):
            if "%" in node.value and node not in written:
                yield node.lineno, "L27", "a string with %"
            # Parts of an f-string have the place of the whole in Python 3.11, which does no harm here.
            signs = re.sub(r"\\[nt\\'\"]", "", ast.get_source_segment(source, node) or "")
            if "\\" in signs:
                yield node.lineno, "L27", "an escape that is not allowed"


def main(words):
    faults = faults_of(words[0])
    for path, line, rule, told in faults:
        print(f"{path}:{line}: {rule}: {told}")
    print(f"language: {len(faults)} faults in {words[0]}")
    return 1 if faults else 0


if __name__ == "__main__":
    sys.exit(main(sys.argv[1:]))
