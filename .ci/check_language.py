"""Looks through the package for breaches of those rules of LANGUAGE.md that a file shows by itself."""

import ast
import builtins
import os
import sys

PACKAGE = "aheadsums"
LIBRARY = {
    "heapq": "heappush heappop heapify heapreplace heappushpop",
    "math": "gcd lcm isqrt comb perm factorial",
    "itertools": "product combinations permutations chain accumulate pairwise islice zip_longest",
    "collections": "defaultdict",
    "__future__": "annotations",
}
BUILTINS = """
len range enumerate zip min max sum abs sorted reversed int str bool bytes list tuple dict set frozenset isinstance ord
repr any all divmod pow getattr hasattr setattr iter next map Exception ValueError TypeError KeyError IndexError
LookupError ZeroDivisionError ArithmeticError OverflowError RuntimeError NotImplementedError AttributeError
StopIteration NotImplemented float object
""".split()
STATEMENTS = (ast.Global, ast.AsyncFunctionDef, ast.AsyncFor, ast.AsyncWith, ast.Await)


def files():
    """The files of the package; whatever else stands there is named in the second list."""
    found, others = [], []
    for folder, _, names in os.walk(PACKAGE):
        if os.path.basename(folder) == "__pycache__":
            continue
        for name in sorted(names):
            (found if name.endswith(".py") else others).append(os.path.join(folder, name))
    return found, others


def line_faults(text):
    lines = text.split("\n")
    if len(lines) - 1 > 399:
        yield 1, "L10 more than 399 lines"
    for at, line in enumerate(lines, 1):
        if len(line) > 120:
            yield at, "L10 more than 120 characters"
        if any(not " " <= one <= "~" for one in line):
            yield at, "L14 a character that is not plain"


def import_fault(node):
    if isinstance(node, ast.Import):
        return "" if [one.name for one in node.names] == ["sys"] else "L2 import of a module"
    module = node.module or ""
    if node.level or any(one.name == "*" or one.asname for one in node.names):
        return "L2 an import that is not plain"
    if module in LIBRARY:
        wrong = [one.name for one in node.names if one.name not in LIBRARY[module].split()]
        return "L2 not of the library" if wrong else ""
    return "" if module.startswith(PACKAGE + ".") else "L2 import from outside"


def node_fault(node):
    if isinstance(node, (ast.Import, ast.ImportFrom)):
        return import_fault(node)
    if isinstance(node, STATEMENTS):
        return "L6 not an allowed statement"
    if isinstance(node, (ast.FunctionDef, ast.ClassDef)):
        return definition_fault(node)
    if isinstance(node, ast.Div):
        return "L7 a stroke"
    if isinstance(node, ast.Constant):
        return constant_fault(node.value)
    if isinstance(node, ast.Name) and isinstance(node.ctx, ast.Load):
        if hasattr(builtins, node.id) and node.id not in BUILTINS + ["print", "__name__"]:
            return "L8 the builtin " + node.id
    if isinstance(node, ast.Name) and isinstance(node.ctx, ast.Store) and hasattr(builtins, node.id):
        if node.id != "_":
            return "L15 the name of a builtin"
    return ""


def definition_fault(node):
    if isinstance(node, ast.ClassDef):
        return "L5 a decorator over a class" if node.decorator_list else ""
    if node.end_lineno - node.lineno + 1 > 40:
        return "L10 a function of more than 40 lines"
    for one in node.decorator_list:
        plain = isinstance(one, ast.Name) and one.id in ("property", "staticmethod", "classmethod")
        if not plain and not (isinstance(one, ast.Attribute) and one.attr == "setter"):
            return "L4 a decorator"
    return ""


def constant_fault(value):
    if isinstance(value, (float, complex)):
        return "L7 a float"
    if isinstance(value, str) and chr(37) in value:
        return "L27 the percent sign in a string"
    return ""


def decorators(tree):
    """The nodes that are, or stand in, decorators: there `property` and the like are allowed."""
    found = set()
    for node in ast.walk(tree):
        for one in getattr(node, "decorator_list", []):
            found |= set(ast.walk(one))
    return found


def faults(text):
    yield from line_faults(text)
    tree = ast.parse(text)
    allowed = decorators(tree)
    for node in ast.walk(tree):
        if node not in allowed:
            fault = node_fault(node)
            if fault:
                yield getattr(node, "lineno", 0), fault


def main():
    found, others = files()
    told = [f"{path}: L1 not a .py file" for path in others]
    for path in found:
        with open(path, encoding="utf-8") as file:
            text = file.read()
        told += [f"{path}:{line}: {fault}" for line, fault in faults(text)]
    print("\n".join(told) if told else f"{len(found)} files keep to the rules that can be seen here")
    return 1 if told or not found else 0


if __name__ == "__main__":
    sys.exit(main())
