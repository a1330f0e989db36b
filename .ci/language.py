"""Checks those rules of LANGUAGE.md that can be seen from each file of the package alone.

Usage: python3 .ci/language.py PACKAGE
"""

import ast
import builtins
import sys
from pathlib import Path

LIBRARY = {
    "heapq": {"heappush", "heappop", "heapify", "heapreplace", "heappushpop"},
    "math": {"gcd", "lcm", "isqrt", "comb", "perm", "factorial"},
    "itertools": {"product", "combinations", "permutations", "chain", "accumulate", "pairwise",
                  "islice", "zip_longest"},
    "collections": {"defaultdict"},
}
BUILTINS = set(
    "len range enumerate zip min max sum abs sorted reversed int str bool list tuple dict set "
    "isinstance ord repr any all divmod pow getattr hasattr setattr iter next map super "
    "property staticmethod classmethod Exception ValueError TypeError KeyError IndexError "
    "LookupError ZeroDivisionError ArithmeticError OverflowError RuntimeError "
    "NotImplementedError AttributeError StopIteration NotImplemented".split()
)
METHODS = set(
    "append clear copy count endswith extend find get index insert isalnum isalpha isdigit "
    "islower isspace isupper items join keys ljust lower lstrip partition pop remove replace "
    "reverse rfind rjust rpartition rsplit rstrip setdefault split splitlines startswith strip "
    "update upper values zfill bit_length title capitalize swapcase casefold center expandtabs "
    "removeprefix removesuffix rindex isascii isdecimal isnumeric istitle isidentifier "
    "isprintable sort add discard format __init__ from_iterable".split()
)
BARRED = set(
    "register mro elements open input law version_info with_traceback add_note eval exec compile "
    "globals locals vars dir type id exit quit help gc os sys builtins delattr breakpoint".split()
)
BARRED_WORDS = set(
    "type typing enum Enum IntEnum StrEnum Flag IntFlag Generic Protocol ABC ABCMeta namedtuple "
    "NamedTuple TypedDict TYPE_CHECKING abstractmethod dataclass overload contextmanager".split()
)
STATEMENTS = (ast.Global, ast.AsyncFunctionDef, ast.AsyncFor, ast.AsyncWith, ast.Await,
              ast.TryStar)
EATERS = {"any", "all", "min", "max", "sum", "sorted"}


def words_of(text):
    """The different words of letters, digits and underscores in a text."""
    return set("".join(c if c.isalnum() or c == "_" else " " for c in text).split())


def of_lines(text):
    """The faults of the lines of a file."""
    lines = text.split("\n")
    if len(lines) > 400:
        yield 400, "L10: more than 399 lines"
    for at, line in enumerate(lines, 1):
        if len(line) > 120:
            yield at, "L10: more than 120 characters"
        if any(not " " <= sign <= "~" for sign in line):
            yield at, "L14: a character that may not stand"
        if words_of(line) & {"_wall", "_WallAttr"}:
            yield at, "L12: a barred word"


def of_module(tree):
    """The faults of what stands at module level."""
    for node in tree.body:
        kinds = (ast.ImportFrom, ast.FunctionDef, ast.ClassDef)
        doc = isinstance(node, ast.Expr) and isinstance(node.value, ast.Constant)
        named = isinstance(node, ast.Assign) and len(node.targets) == 1 and isinstance(
            node.targets[0], ast.Name)
        if not (isinstance(node, kinds) or doc or named):
            yield node.lineno, "L3: may not stand at module level"


def of_import(node, package):
    """The faults of an import."""
    if isinstance(node, ast.Import):
        yield node.lineno, "L2: an import without from"
        return
    allowed = LIBRARY.get(node.module, set())
    for alias in node.names:
        own = node.level == 0 and str(node.module).startswith(f"{package}.")
        if not own and (alias.name not in allowed or alias.asname):
            yield node.lineno, f"L2: {node.module} {alias.name}"
        if alias.name == "*":
            yield node.lineno, "L2: a star"


def bound(tree):
    """All names that a file binds anywhere."""
    found = set()
    for node in ast.walk(tree):
        if isinstance(node, (ast.FunctionDef, ast.ClassDef)):
            found.add(node.name)
        elif isinstance(node, ast.Name) and not isinstance(node.ctx, ast.Load):
            found.add(node.id)
        elif isinstance(node, ast.arg):
            found.add(node.arg)
        elif isinstance(node, ast.alias):
            found.add(node.asname or node.name)
        elif isinstance(node, ast.ExceptHandler) and node.name:
            found.add(node.name)
        elif isinstance(node, (ast.MatchAs, ast.MatchStar)) and node.name:
            found.add(node.name)
    return found


def of_names(tree):
    """The faults of names that a file imports or gives to classes: those that stand for something
    else as well, and imports that nothing reads.
    """
    imported = {alias.asname or alias.name for node in tree.body if isinstance(node, ast.ImportFrom)
                for alias in node.names}
    taken = imported | {node.name for node in tree.body if isinstance(node, ast.ClassDef)}
    read = {node.id for node in ast.walk(tree) if isinstance(node, ast.Name)}
    for name in sorted(imported - read):
        yield 1, f"L16: {name} is imported and not read"
    for node in ast.walk(tree):
        if isinstance(node, ast.Name) and not isinstance(node.ctx, ast.Load) and node.id in taken:
            yield node.lineno, f"L15: {node.id} is the name of a class or an import"
        if isinstance(node, ast.arg) and node.arg in taken:
            yield node.lineno, f"L15: {node.arg} is the name of a class or an import"


def docstrings(tree):
    """The identities of the nodes that are docstrings."""
    kinds = (ast.Module, ast.FunctionDef, ast.ClassDef)
    return {id(node.body[0].value) for node in ast.walk(tree)
            if isinstance(node, kinds) and node.body and isinstance(node.body[0], ast.Expr)}


def of_string(node, docs):
    """The faults of a literal."""
    if isinstance(node.value, (float, complex)):
        yield node.lineno, "L7: a float"
    if isinstance(node.value, str):
        if "%" in node.value:
            yield node.lineno, "L27: a percent sign"
        if id(node) not in docs and words_of(node.value) & BARRED_WORDS:
            yield node.lineno, "L17: a barred word"


def of_node(node, names, methods, docs):
    """The faults of one node, whatever it stands in."""
    if isinstance(node, STATEMENTS):
        yield node.lineno, "L6: a statement that may not stand"
    if isinstance(node, ast.FunctionDef) and node.end_lineno - node.lineno >= 40:
        yield node.lineno, f"L10: {node.name} has more than 40 lines"
    if isinstance(node, ast.Constant):
        yield from of_string(node, docs)
    if isinstance(node, (ast.BinOp, ast.AugAssign)) and isinstance(node.op, (ast.Div, ast.MatMult)):
        yield node.lineno, "L7: an operator that may not stand"
    if isinstance(node, ast.Name) and node.id in BARRED | BARRED_WORDS:
        yield node.lineno, f"L17: {node.id}"
    if isinstance(node, ast.Name) and isinstance(node.ctx, ast.Load):
        if node.id not in names and node.id not in BUILTINS:
            yield node.lineno, f"L8: {node.id}"
    if isinstance(node, ast.Call):
        yield from of_call(node, methods)


def of_call(node, methods):
    """The faults of a call."""
    if isinstance(node.func, ast.Attribute):
        if node.func.attr not in METHODS and node.func.attr not in methods:
            yield node.lineno, f"L25: {node.func.attr}"
    if isinstance(node.func, ast.Name) and node.func.id in EATERS:
        if any(isinstance(argument, ast.GeneratorExp) for argument in node.args):
            yield node.lineno, f"L7: a generator expression in {node.func.id}"


def faults(path, methods):
    """All faults of a file, as pairs of a line and what is wrong."""
    text = path.read_text(encoding="utf-8")
    tree = ast.parse(text)
    names = bound(tree)
    docs = docstrings(tree)
    yield from of_lines(text)
    yield from of_module(tree)
    yield from of_names(tree)
    for name in sorted(names & set(builtins.__dict__)):
        yield 1, f"L15: {name} is the name of a builtin"
    for node in ast.walk(tree):
        if isinstance(node, (ast.Import, ast.ImportFrom)):
            yield from of_import(node, path.parent.name)
        yield from of_node(node, names, methods, docs)


def main(folder):
    """Prints the faults of all files of the package, and returns how many there are."""
    paths = sorted(Path(folder).glob("*.py"))
    trees = [ast.parse(path.read_text(encoding="utf-8")) for path in paths]
    methods = {node.name for tree in trees for node in ast.walk(tree)
               if isinstance(node, ast.FunctionDef)}
    many = 0
    for path in paths:
        for line, fault in faults(path, methods):
            print(f"{path}:{line}: {fault}")
            many += 1
    print(f"{len(paths)} files, {many} faults")
    return many


if __name__ == "__main__":
    sys.exit(1 if main(sys.argv[1]) else 0)
