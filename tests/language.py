"""A short check of the package against the rules of ../shared/LANGUAGE.md that a script can see well.

`complaints(files)` takes a dict from the names of the files of the package, such as "values.py", to their texts.
It returns a list of texts, each with the file, the line and the rule. It does not see all that the rules say.
"""

import ast
import builtins
import io
import re
import tokenize
import warnings

PACKAGE = "lenstree"

BUILTINS = set(
    "len range enumerate zip min max sum abs sorted reversed int str bool list tuple dict set frozenset isinstance ord "
    "repr any all divmod pow iter next getattr hasattr setattr super property staticmethod classmethod bytes "
    "Exception ValueError TypeError KeyError IndexError LookupError ZeroDivisionError ArithmeticError OverflowError "
    "RuntimeError NotImplementedError AttributeError StopIteration NotImplemented".split()
)
CAUGHT = {"KeyError", "ZeroDivisionError", "StopIteration", "ValueError", "LookupError", "IndexError"}
METHODS = set(
    "append clear copy count endswith extend find get index insert isalnum isalpha isdigit islower isspace isupper "
    "items join keys ljust lower lstrip partition pop remove replace reverse rfind rjust rpartition rsplit rstrip "
    "setdefault split splitlines startswith strip update upper values zfill bit_length title capitalize swapcase "
    "casefold center expandtabs removeprefix removesuffix rindex isascii isdecimal isnumeric istitle isidentifier "
    "isprintable sort add discard __init__".split()
)
LIBRARY = {
    "heapq": set("heappush heappop heapify heapreplace heappushpop".split()),
    "math": set("gcd lcm isqrt comb perm factorial".split()),
    "itertools": set("product combinations permutations chain accumulate pairwise islice zip_longest".split()),
    "collections": {"defaultdict"},
}
DUNDERS = set(
    "__init__ __eq__ __repr__ __str__ __len__ __enter__ __exit__ __call__ __iter__ __lt__ __le__ __gt__ __ge__ __ne__ "
    "__add__ __sub__ __mul__ __contains__ __getitem__ __setitem__ __bool__ __neg__ __slots__ __all__ "
    "__version__".split()
)
NEVER = set("register mro elements open input law version_info with_traceback add_note".split())
NO_VARIABLE = set(
    "attrgetter breakpoint builtins compile copyright credits delattr dir eval exec exit gc getattr globals hasattr "
    "help id importlib license locals methodcaller os quit setattr super type vars sys __name__".split()
)
WORDS = set(
    "typing typing_extensions enum Enum IntEnum StrEnum Flag IntFlag Generic Protocol ABC ABCMeta namedtuple "
    "NamedTuple TypedDict TYPE_CHECKING abstractmethod".split()
)
STATEMENTS = (
    ast.Assign, ast.AugAssign, ast.AnnAssign, ast.If, ast.While, ast.For, ast.Return, ast.Break, ast.Continue, ast.Pass,
    ast.Raise, ast.Assert, ast.Delete, ast.Nonlocal, ast.Match, ast.With, ast.Try, ast.Expr, ast.FunctionDef,
    ast.ClassDef, ast.ImportFrom,
)
CHANGERS = {"append", "pop", "insert", "remove", "clear", "update", "extend", "setdefault", "reverse", "sort"}
SET_TAKERS = {"sorted", "len"}
BUILTIN_KEYWORDS = {
    "sorted": {"key", "reverse"}, "min": {"key", "default"}, "max": {"key", "default"}, "sum": {"start"},
    "enumerate": {"start"}, "zip": {"strict"},
}


def bound_by(node):
    """Return the list of (name, line) that a node itself binds, methods left out."""
    if isinstance(node, ast.Assign):
        return [(target.id, node.lineno) for target in node.targets if isinstance(target, ast.Name)]
    if isinstance(node, ast.arg):
        return [(node.arg, node.lineno)]
    if isinstance(node, ast.Name) and isinstance(node.ctx, ast.Store) and not isinstance(node.parent, ast.Assign):
        return [(node.id, node.lineno)]
    if isinstance(node, ast.ExceptHandler) and node.name is not None:
        return [(node.name, node.lineno)]
    if isinstance(node, (ast.FunctionDef, ast.ClassDef)) and not isinstance(node.parent, ast.ClassDef):
        return [(node.name, node.lineno)]
    return []


def is_plain_assignment(node):
    """Tell whether a statement assigns a plain value to one name: no call, no set, no list or dict within another."""
    if not isinstance(node, ast.Assign) or len(node.targets) != 1 or not isinstance(node.targets[0], ast.Name):
        return False
    parts = list(ast.walk(node.value))
    if any([isinstance(part, (ast.Call, ast.ListComp, ast.Set)) for part in parts]):
        return False
    return not any([isinstance(part, (ast.List, ast.Dict)) for part in parts[1:]])


class Checker:
    """Checks one file and collects complaints."""

    def __init__(self, name, text, own_methods):
        self.name = name
        self.text = text
        self.own_methods = own_methods
        self.found = []
        self.tree = None

    def complain(self, rule, line):
        self.found.append(f"{self.name}:{line}: {rule}")

    def check(self):
        self.characters()
        try:
            with warnings.catch_warnings():
                warnings.simplefilter("error")
                self.tree = ast.parse(self.text)
                compile(self.text, self.name, "exec")
        except (SyntaxError, Warning):
            self.complain("L27", 1)
            return self.found
        for parent in ast.walk(self.tree):
            for child in ast.iter_child_nodes(parent):
                child.parent = parent
        self.words()
        self.module_level()
        self.sizes()
        self.bindings()
        for node in ast.walk(self.tree):
            self.statement(node)
            self.expression(node)
            self.call(node)
            self.names(node)
        return self.found

    def characters(self):
        for number, line in enumerate(self.text.split("\n"), 1):
            if any([not " " <= letter <= "~" for letter in line]):
                self.complain("L14", number)
            if len(line) > 120:
                self.complain("L10", number)
        if len(self.text.split("\n")) > 400:
            self.complain("L10", 400)

    def words(self):
        for token in tokenize.generate_tokens(io.StringIO(self.text).readline):
            if token.type == tokenize.STRING:
                self.string(token)
            if token.type == tokenize.NAME and (token.string in WORDS | {"type"} or "dataclass" in token.string):
                self.complain("L17", token.start[0])

    def string(self, token):
        docstrings = [
            node.body[0].value.lineno for node in ast.walk(self.tree)
            if isinstance(node, (ast.Module, ast.ClassDef, ast.FunctionDef)) and ast.get_docstring(node) is not None
        ]
        if "%" in token.string or re.search(r"\\[^nt\\'\"]", token.string.replace("\\\\", "")):
            self.complain("L27", token.start[0])
        if token.start[0] not in docstrings and set(re.findall(r"\w+", token.string)) & WORDS:
            self.complain("L17", token.start[0])

    def module_level(self):
        for place, node in enumerate(self.tree.body):
            docstring = place == 0 and isinstance(node, ast.Expr) and isinstance(node.value, ast.Constant)
            defined = isinstance(node, (ast.ImportFrom, ast.FunctionDef, ast.ClassDef))
            if not (docstring or defined or is_plain_assignment(node)):
                self.complain("L3", node.lineno)

    def sizes(self):
        for node in ast.walk(self.tree):
            if isinstance(node, ast.FunctionDef) and node.end_lineno - node.lineno + 1 > 40:
                self.complain("L10", node.lineno)

    def bindings(self):
        imports = [alias.asname or alias.name for node in self.tree.body
                   if isinstance(node, ast.ImportFrom) for alias in node.names]
        classes = [node.name for node in self.tree.body if isinstance(node, ast.ClassDef)]
        top = imports + [name for node in self.tree.body for name, _ in bound_by(node)]
        if len(set(top)) < len(top):
            self.complain("L15", 1)
        inner = []
        for outer in self.tree.body:
            if isinstance(outer, (ast.FunctionDef, ast.ClassDef)):
                inner += [pair for node in ast.walk(outer) if node is not outer for pair in bound_by(node)]
        for name, line in inner:
            if name in imports + classes:
                self.complain("L15", line)
        for name, line in inner + [pair for node in self.tree.body for pair in bound_by(node)]:
            if hasattr(builtins, name):
                self.complain("L15", line)
            if name in NO_VARIABLE:
                self.complain("L17", line)
        known = BUILTINS | set(top) | {name for name, _ in inner}
        for node in ast.walk(self.tree):
            if isinstance(node, ast.Name) and isinstance(node.ctx, ast.Load) and node.id not in known:
                self.complain("L8", node.lineno)

    def statement(self, node):
        if isinstance(node, ast.stmt) and not isinstance(node, STATEMENTS):
            self.complain("L2" if isinstance(node, ast.Import) else "L6", node.lineno)
        if isinstance(node, ast.FunctionDef):
            for decorator in node.decorator_list:
                if "property" != getattr(decorator, "id", "") and getattr(decorator, "attr", "") != "setter" and \
                        getattr(decorator, "id", "") not in ("staticmethod", "classmethod"):
                    self.complain("L4", node.lineno)
        if isinstance(node, ast.ClassDef) and (node.decorator_list or node.keywords):
            self.complain("L5", node.lineno)
        if isinstance(node, ast.ExceptHandler):
            kinds = node.type.elts if isinstance(node.type, ast.Tuple) else [node.type]
            for kind in kinds:
                if not isinstance(kind, ast.Name) or (hasattr(builtins, kind.id) and kind.id not in CAUGHT):
                    self.complain("L19", node.lineno)
        if isinstance(node, ast.For):
            self.loop(node)

    def loop(self, node):
        """What a loop goes over is not modified in it (only by its bare name here)."""
        over = node.iter
        if isinstance(over, ast.Call):
            if isinstance(over.func, ast.Name) and over.func.id in ("enumerate", "zip", "reversed"):
                over = over.args[0]
            elif isinstance(over.func, ast.Attribute) and over.func.attr in ("items", "keys", "values"):
                over = over.func.value
        if not isinstance(over, ast.Name):
            return
        for part in [part for row in node.body for part in ast.walk(row)]:
            item = isinstance(part, ast.Subscript) and isinstance(part.ctx, (ast.Store, ast.Del))
            call = isinstance(part, ast.Attribute) and part.attr in CHANGERS
            if (item or call) and isinstance(part.value, ast.Name) and part.value.id == over.id:
                self.complain("L23", part.lineno)

    def expression(self, node):
        if isinstance(node, ast.Constant) and isinstance(node.value, (float, complex)):
            self.complain("L7", node.lineno)
        if isinstance(node, (ast.Div, ast.MatMult)):
            self.complain("L7", node.parent.lineno)
        if isinstance(node, (ast.Await, ast.AsyncFor, ast.AsyncFunctionDef, ast.AsyncWith)):
            self.complain("L6", node.lineno)
        if isinstance(node, ast.Compare):
            for operator, right in zip(node.ops, node.comparators):
                plain = isinstance(right, ast.Constant) and (right.value is None or isinstance(right.value, bool))
                if isinstance(operator, (ast.Is, ast.IsNot)) and not plain:
                    self.complain("L20", node.lineno)
        if isinstance(node, (ast.Set, ast.SetComp)) or (
                isinstance(node, ast.Call) and isinstance(node.func, ast.Name) and node.func.id == "set"):
            if not self.set_may_stand(node):
                self.complain("L24", node.lineno)

    def set_may_stand(self, node):
        parent = node.parent
        while isinstance(parent, ast.BinOp):
            parent = parent.parent
        if isinstance(parent, ast.Compare):
            return True
        if isinstance(parent, ast.Call) and isinstance(parent.func, ast.Name):
            return parent.func.id in SET_TAKERS
        return isinstance(parent, ast.Assign) and isinstance(parent.targets[0], ast.Name)

    def call(self, node):
        if not isinstance(node, ast.Call):
            return
        if isinstance(node.func, ast.Attribute):
            if node.func.attr not in METHODS | self.own_methods:
                self.complain("L25", node.lineno)
        elif isinstance(node.func, ast.Name) and node.func.id in BUILTINS:
            allowed = BUILTIN_KEYWORDS.get(node.func.id, set())
            if any([keyword.arg not in allowed for keyword in node.keywords]):
                self.complain("L22", node.lineno)

    def names(self, node):
        for field in ("id", "name", "attr", "arg", "asname"):
            name = getattr(node, field, None)
            if not isinstance(name, str):
                continue
            line = getattr(node, "lineno", 1)
            if name.startswith("__") and name not in DUNDERS | {"__class__", "__name__"}:
                self.complain("L8", line)
            elif not re.fullmatch(r"_|_?[A-Za-z][A-Za-z0-9_]*|__\w+__", name) or name.startswith("_wall"):
                self.complain("L12", line)
            if name in NEVER:
                self.complain("L17", line)
        if isinstance(node, ast.Name) and node.id == "_" and isinstance(node.ctx, ast.Load):
            self.complain("L12", node.lineno)


def imports_of(text):
    """Return the list of (line, module, name, asname) of the imports of a file."""
    return [
        (node.lineno, node.module if node.level == 0 else None, alias.name, alias.asname)
        for node in ast.walk(ast.parse(text)) if isinstance(node, ast.ImportFrom) for alias in node.names
    ]


def defined_in(text):
    """Return the set of the names that a file itself defines."""
    names = set()
    for node in ast.parse(text).body:
        if isinstance(node, (ast.FunctionDef, ast.ClassDef)):
            names.add(node.name)
        elif isinstance(node, ast.Assign):
            names |= {target.id for target in node.targets if isinstance(target, ast.Name)}
    return names


def import_complaints(files):
    """Imports name the files of the package that define the names, and go round in no circle."""
    found, graph = [], {}
    for name, text in files.items():
        graph[name] = set()
        for line, module, word, asname in imports_of(text):
            if module in LIBRARY and word in LIBRARY[module] and asname is None:
                continue
            file = "" if module is None else module.removeprefix(PACKAGE + ".").replace(".", "/") + ".py"
            if module is None or not module.startswith(PACKAGE + ".") or file not in files or word == "*":
                found.append(f"{name}:{line}: L2")
            elif word not in defined_in(files[file]):
                found.append(f"{name}:{line}: L16")
            else:
                graph[name].add(file)
    for name in graph:
        reached, todo = set(), list(graph[name])
        while todo:
            file = todo.pop()
            if file not in reached:
                reached.add(file)
                todo += graph[file]
        if name in reached:
            found.append(f"{name}:1: L16")
    return found


def complaints(files):
    """Return the list of what the rules object to in the files."""
    found = []
    own_methods = set()
    for name, text in files.items():
        if name not in ("__init__.py", "__main__.py"):
            if not re.fullmatch(r"[a-z][a-z0-9_]*\.py", name) or hasattr(builtins, name[:-3]):
                found.append(f"{name}:1: L14")
        try:
            with warnings.catch_warnings():
                warnings.simplefilter("error")
                tree = ast.parse(text)
        except (SyntaxError, Warning):
            return [f"{name}:1: L27"]
        for node in ast.walk(tree):
            if isinstance(node, ast.ClassDef):
                methods = [part.name for part in node.body if isinstance(part, ast.FunctionDef)]
                own_methods |= set(methods)
    for name, text in files.items():
        found += Checker(name, text, own_methods).check()
    return found + import_complaints(files)
