"""Checks the rules of LANGUAGE.md that one file shows by itself: language.py PACKAGE.

It prints a line for each place that breaks a rule. What it does not see must be read for.
"""

import ast
import builtins
import os
import re
import sys

ALLOWED_BUILTINS = set("""len range enumerate zip min max sum abs sorted reversed int str bool bytes list tuple dict set
frozenset isinstance ord repr any all divmod pow getattr hasattr setattr iter next map super property staticmethod
classmethod object float Exception ValueError TypeError KeyError IndexError LookupError ZeroDivisionError
ArithmeticError OverflowError RuntimeError NotImplementedError AttributeError StopIteration NotImplemented""".split())
LIBRARY = {
    "heapq": "heappush heappop heapify heapreplace heappushpop",
    "math": "gcd lcm isqrt comb perm factorial",
    "itertools": "product combinations permutations chain accumulate pairwise islice zip_longest",
    "collections": "defaultdict",
    "__future__": "annotations",
}
DUNDERS = set("""init eq repr str len enter exit call iter lt le gt ge ne add sub mul floordiv mod pow and or xor lshift
rshift radd rsub rmul rfloordiv rmod rand ror rxor rlshift rrshift iadd isub imul ifloordiv imod ipow iand ior ixor
ilshift irshift neg pos invert abs bool contains getitem setitem""".split())
NOWHERE = {"register", "mro", "elements", "open", "input", "law", "version_info", "with_traceback", "add_note"}
NOT_VARIABLES = set("""attrgetter breakpoint builtins compile copyright credits delattr dir eval exec exit gc globals help
id importlib license locals methodcaller os quit type vars sys""".split())
WORDS = set("""type typing typing_extensions enum Enum IntEnum StrEnum Flag IntFlag Generic Protocol ABC ABCMeta
namedtuple NamedTuple TypedDict TYPE_CHECKING abstractmethod""".split())
NODES = (ast.Global, ast.AsyncFunctionDef, ast.AsyncFor, ast.AsyncWith, ast.Await, ast.Div, ast.MatMult, ast.MatchMapping)
METHODS = set("""append clear copy count endswith extend find get index insert isalnum isalpha isdigit islower isspace
isupper items join keys ljust lower lstrip partition pop remove replace reverse rfind rjust rpartition rsplit rstrip
setdefault split splitlines startswith strip update upper values zfill bit_length title capitalize swapcase casefold
center expandtabs removeprefix removesuffix rindex isascii isdecimal isnumeric istitle isidentifier isprintable translate
maketrans encode decode hex fromhex to_bytes from_bytes sort add discard format""".split())

BARRED_ATTRIBUTES = set("""items keys values pop update append clear extend insert remove reverse setdefault sort args encode
decode hex fromhex format as_integer_ratio bit_count conjugate from_bytes is_integer to_bytes""".split())


def package_files(package):
    for folder, folders, names in sorted(os.walk(package)):
        if "__pycache__" in folders:
            folders.remove("__pycache__")
        for name in sorted(names):
            yield os.path.join(folder, name)
        if "__init__.py" not in names:
            yield os.path.join(folder, "__init__.py")


def text_faults(path, text):
    name = os.path.basename(path)
    if not re.fullmatch(r"[a-z][a-z0-9_]*\.py|__(init|main)__\.py", name):
        yield 1, "L1 L14 the name of the file"
    lines = text.split("\n")
    if len(lines) - 1 > 399:
        yield 400, "L10 more than 399 lines"
    for at, line in enumerate(lines, 1):
        if len(line) > 120:
            yield at, "L10 more than 120 characters"
        if re.search(r"[^ -~]", line):
            yield at, "L14 a character that is not from the space to ~"


def module_faults(tree):
    for node in tree.body:
        documents = isinstance(node, ast.Expr) and isinstance(node.value, ast.Constant)
        assigns = isinstance(node, ast.Assign) and len(node.targets) == 1 and isinstance(node.targets[0], ast.Name)
        if not (documents or assigns or isinstance(node, (ast.ImportFrom, ast.FunctionDef, ast.ClassDef))):
            yield node.lineno, "L3 a statement at module level"
        if assigns and any(isinstance(part, (ast.Call, ast.Name)) and not isinstance(part, ast.expr_context)
                           and not (isinstance(part, ast.Name) and isinstance(part.ctx, ast.Store))
                           for part in ast.walk(node)):
            yield node.lineno, "L3 a value at module level that is not plain"
        if isinstance(node, (ast.Import, ast.ImportFrom)):
            yield from import_faults(node)


def import_faults(node):
    if isinstance(node, ast.Import) or node.level > 0:
        yield node.lineno, "L2 L16 the form of the import"
        return
    names = [alias.name for alias in node.names]
    if node.module in LIBRARY:
        if any(name not in LIBRARY[node.module].split() for name in names):
            yield node.lineno, "L2 a name of the library"
    elif node.module.split(".")[0] != "throughline" or "*" in names:
        yield node.lineno, "L2 an import from elsewhere"
    elif os.path.exists(node.module.replace(".", "/") + ".py"):
        with open(node.module.replace(".", "/") + ".py", encoding="utf-8") as source:
            defined = ast.parse(source.read()).body
        own = {part.name for part in defined if isinstance(part, (ast.FunctionDef, ast.ClassDef))}
        own |= {part.targets[0].id for part in defined if isinstance(part, ast.Assign)}
        if not set(names) <= own:
            yield node.lineno, "L16 the file does not define the name"
    else:
        yield node.lineno, "L16 no such file"


def node_faults(tree):
    documents = {id(node.body[0].value) for node in ast.walk(tree)
                 if isinstance(node, (ast.Module, ast.FunctionDef, ast.ClassDef)) and node.body
                 and isinstance(node.body[0], ast.Expr)}
    own_methods = {node.name for node in ast.walk(tree) if isinstance(node, ast.FunctionDef)}
    for node in ast.walk(tree):
        line = getattr(node, "lineno", 1)
        if isinstance(node, NODES):
            yield line, f"L6 L7 {node.__class__.__name__}"
        elif isinstance(node, ast.FunctionDef):
            yield from function_faults(node)
        elif isinstance(node, ast.Constant):
            yield from constant_faults(node, id(node) in documents)
        elif isinstance(node, ast.Name):
            yield from name_faults(node)
        elif isinstance(node, ast.arg):
            if node.arg in NOT_VARIABLES | NOWHERE or hasattr(builtins, node.arg):
                yield line, f"L15 L17 the parameter {node.arg}"
        elif isinstance(node, ast.Attribute):
            if node.attr in NOWHERE or node.attr in ("format_map",):
                yield line, f"L17 the attribute {node.attr}"
            if isinstance(node.ctx, ast.Store) and node.attr in BARRED_ATTRIBUTES:
                yield line, f"L26 the attribute {node.attr}"
        elif isinstance(node, ast.Compare):
            for sign, side in zip(node.ops, node.comparators):
                if isinstance(sign, (ast.Is, ast.IsNot)) and not (
                        isinstance(side, ast.Constant) and side.value in (None, True, False)):
                    yield line, "L20 is"
        elif isinstance(node, ast.Call) and isinstance(node.func, ast.Attribute):
            known = METHODS | own_methods
            builtin = any(hasattr(kind, node.func.attr) for kind in (str, int, list, dict, set, bytes, tuple))
            if builtin and node.func.attr not in known:
                yield line, f"L25 the method {node.func.attr}"


def function_faults(node):
    if node.end_lineno - node.lineno + 1 > 40:
        yield node.lineno, "L10 more than 40 lines"
    word = re.fullmatch(r"__(\w+)__", node.name)
    if node.name.startswith("__") and not (word and word.group(1) in DUNDERS):
        yield node.lineno, f"L5 the method {node.name}"
    if node.name in NOWHERE | NOT_VARIABLES:
        yield node.lineno, f"L17 the function {node.name}"
    for decorator in node.decorator_list:
        if not re.fullmatch(r"property|staticmethod|classmethod|\w+\.setter", ast.unparse(decorator)):
            yield node.lineno, "L4 L5 the decorator"


def constant_faults(node, documents):
    if isinstance(node.value, (float, complex)):
        yield node.lineno, "L7 a float"
    if isinstance(node.value, str):
        if "%" in node.value:
            yield node.lineno, "L27 a percent sign in a string"
        if not documents and WORDS & set(re.findall(r"\w+", node.value)):
            yield node.lineno, "L17 a word in a string"


def name_faults(node):
    is_builtin = hasattr(builtins, node.id)
    if isinstance(node.ctx, ast.Load):
        if is_builtin and node.id not in ALLOWED_BUILTINS and node.id not in ("True", "False", "None"):
            yield node.lineno, f"L8 the builtin {node.id}"
    elif is_builtin or node.id in NOT_VARIABLES | NOWHERE:
        yield node.lineno, f"L15 L17 the name {node.id}"
    if node.id.startswith(("__", "_wall", "_pe_", "_dcw_", "_enum_", "_cm_", "_twin_re_", "_lay_", "_law_", "_stub_")):
        yield node.lineno, f"L8 L12 the name {node.id}"
    if node.id in WORDS:
        yield node.lineno, f"L17 the name {node.id}"


def main(package):
    many = 0
    for path in package_files(package):
        if not os.path.exists(path):
            many += 1
            print(f"{path}:1: L14 the folder has no such file")
            continue
        with open(path, encoding="utf-8") as source:
            text = source.read()
        tree = ast.parse(text)
        for line, fault in [*text_faults(path, text), *module_faults(tree), *node_faults(tree)]:
            many += 1
            print(f"{path}:{line}: {fault}")
    return 0 if many == 0 else 1


sys.exit(main(sys.argv[1]))
