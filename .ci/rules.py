"""Looks for breaks of those rules of ../shared/LANGUAGE.md that a look at the code can find.

It does not look for all of them: what it lets pass may still break a rule.
"""

import ast
import sys
from pathlib import Path

ROOT = Path(__file__).resolve().parent.parent
PACKAGE = ROOT / "contractbook"
LIBRARY = {
    "heapq": {"heappush", "heappop", "heapify", "heapreplace", "heappushpop"},
    "math": {"gcd", "lcm", "isqrt", "comb", "perm", "factorial"},
    "itertools": {"product", "combinations", "permutations", "chain", "accumulate", "pairwise", "islice",
                  "zip_longest"},
    "collections": {"defaultdict"},
    "__future__": {"annotations"},
}
BUILTINS = set("""
    len range enumerate zip min max sum abs sorted reversed int str bool bytes list tuple dict set frozenset
    isinstance ord repr any all divmod pow iter next map getattr hasattr setattr super
    property staticmethod classmethod object
    Exception ValueError TypeError KeyError IndexError LookupError ZeroDivisionError ArithmeticError OverflowError
    RuntimeError NotImplementedError AttributeError StopIteration NotImplemented True False None
""".split())
EVERY_BUILTIN = set(dir(__builtins__))
BARRED = set("type typing typing_extensions enum Enum IntEnum StrEnum Flag IntFlag Generic Protocol ABC ABCMeta "
             "namedtuple NamedTuple TypedDict TYPE_CHECKING abstractmethod".split())
BARRED_NAMES = set("register mro elements open input law version_info with_traceback add_note".split())
METHODS = set("""
    append clear copy count endswith extend find get index insert isalnum isalpha isdigit islower isspace isupper items
    join keys ljust lower lstrip partition pop remove replace reverse rfind rjust rpartition rsplit rstrip setdefault
    split splitlines startswith strip update upper values zfill bit_length sort title capitalize swapcase casefold
    center expandtabs removeprefix removesuffix rindex isascii isdecimal isnumeric istitle isidentifier isprintable
    translate maketrans format add discard encode decode hex from_bytes
""".split())
STATEMENTS = (ast.Global, ast.AsyncFunctionDef, ast.AsyncFor, ast.AsyncWith, ast.Await)


def look(path, own_methods, found):
    text = path.read_text(encoding="utf-8")
    lines = text.split("\n")

    def told(rule, line, why):
        found.append(f"{path.relative_to(ROOT)}:{line}: {rule}: {why}")

    for at, line in enumerate(lines, 1):
        if len(line) > 120:
            told("L10", at, "a line of more than 120 characters")
        if any(not " " <= letter <= "~" for letter in line):
            told("L14", at, "a character that is not one from the space to ~")
    if len(text.splitlines()) > 399:
        told("L10", 400, "a file of more than 399 lines")
    tree = ast.parse(text)
    for node in ast.walk(tree):
        look_at(node, told)
        if isinstance(node, ast.Call) and isinstance(node.func, ast.Attribute):
            if node.func.attr not in METHODS | own_methods and not node.func.attr.startswith("__"):
                told("L25", node.lineno, f"the method {node.func.attr}")
    look_at_bindings(tree, told)


def look_at_bindings(tree, told):
    """Names in functions that are those of a class or an import of the file."""
    taken = {node.name for node in ast.walk(tree) if isinstance(node, ast.ClassDef)}
    taken |= {name.name for node in ast.walk(tree) if isinstance(node, ast.ImportFrom) for name in node.names}
    for node in ast.walk(tree):
        name = node.arg if isinstance(node, ast.arg) else None
        if isinstance(node, ast.Name) and isinstance(node.ctx, ast.Store):
            name = node.id
        if name in taken:
            told("L15", node.lineno, f"{name} is the name of a class or an import")


def methods_of(path):
    classes = [node for node in ast.walk(ast.parse(path.read_text(encoding="utf-8"))) if isinstance(node, ast.ClassDef)]
    return {part.name for found in classes for part in found.body if isinstance(part, ast.FunctionDef)}


def look_at(node, told):
    if isinstance(node, ast.Import):
        told("L16", node.lineno, "an import without from")
    if isinstance(node, ast.ImportFrom):
        allowed = LIBRARY.get(node.module)
        own = node.level == 0 and str(node.module).startswith("contractbook.")
        if not own and (allowed is None or any(name.name not in allowed for name in node.names)):
            told("L2", node.lineno, f"an import from {node.module}")
    if isinstance(node, (ast.FunctionDef, ast.AsyncFunctionDef)) and node.end_lineno - node.lineno + 1 > 40:
        told("L10", node.lineno, f"{node.name} has more than 40 lines")
    if isinstance(node, STATEMENTS):
        told("L6", node.lineno, "a statement that is not allowed")
    if isinstance(node, ast.Constant) and isinstance(node.value, (float, complex)) or isinstance(node, ast.Div):
        told("L7", getattr(node, "lineno", 0), "a float or /")
    if isinstance(node, ast.Constant) and isinstance(node.value, str) and "%" in node.value:
        told("L27", node.lineno, "the character % in a string")
    look_at_names(node, told)


def look_at_names(node, told):
    name = getattr(node, "id", None) or getattr(node, "name", None) or getattr(node, "arg", None)
    if not isinstance(name, str):
        name = node.attr if isinstance(node, ast.Attribute) else None
    if name is None:
        return
    line = getattr(node, "lineno", 0)
    if name in BARRED or name in BARRED_NAMES:
        told("L17", line, f"the name {name}")
    bound = isinstance(node, (ast.FunctionDef, ast.ClassDef, ast.arg))
    bound = bound or (isinstance(node, ast.Name) and not isinstance(node.ctx, ast.Load))
    if bound and name in EVERY_BUILTIN:
        told("L15", line, f"{name} is the name of a builtin")
    if isinstance(node, ast.Name) and name in EVERY_BUILTIN and name not in BUILTINS:
        told("L8", line, f"the builtin {name}")


def main():
    found = []
    own_methods = {name for path in PACKAGE.rglob("*.py") for name in methods_of(path)}
    for path in sorted(PACKAGE.rglob("*")):
        if path.suffix == ".py":
            look(path, own_methods, found)
        elif path.name != "__pycache__" and path.suffix != ".pyc":
            found.append(f"{path.relative_to(ROOT)}: L1: the package contains files .py only")
    for line in found:
        print(line)
    print(f"rules: {len(found)} breaks found")
    return 1 if found else 0


if __name__ == "__main__":
    sys.exit(main())
