"""What LANGUAGE.md asks of the files of the package, as far as a reader of the code can tell.

It asks for a little more than the rules do: what this program never needs is not allowed at all.
"""

import ast
import builtins
import re

BUILTINS = set(
    "len range enumerate zip min max sum abs sorted reversed int str bool list tuple dict set isinstance ord repr "
    "any all divmod hasattr ValueError True False None staticmethod super".split())
METHODS = set(
    "append clear copy count endswith extend find get index insert isalnum isalpha isdigit islower isspace isupper "
    "items join keys ljust lower lstrip partition pop remove replace reverse rfind rjust rpartition rsplit rstrip "
    "setdefault split splitlines startswith strip update upper values zfill bit_length isascii add".split())
DUNDERS = {"__init__", "__eq__", "__str__", "__len__", "__bool__", "__call__", "__contains__"}
STATEMENTS = (
    ast.FunctionDef, ast.ClassDef, ast.Return, ast.Assign, ast.AugAssign, ast.For, ast.While, ast.If, ast.Raise,
    ast.Try, ast.ImportFrom, ast.Expr, ast.Pass, ast.Break, ast.Continue)
BARRED_NODES = (
    ast.GeneratorExp, ast.Lambda, ast.NamedExpr, ast.Yield, ast.YieldFrom, ast.Await, ast.Set, ast.SetComp,
    ast.Div, ast.MatMult)
BARRED_WORDS = set(
    "register mro elements open input law version_info with_traceback add_note attrgetter breakpoint builtins compile "
    "copyright credits delattr dir eval exec exit gc getattr globals help id importlib license locals methodcaller os "
    "quit setattr type vars sys typing enum Enum Generic Protocol ABC namedtuple NamedTuple TypedDict dataclass".split())
BARRED_NAMES = (r"_(wall|pe_|dcw_|enum_|cm_|twin_re_|lay_|law_|stub_|sre|WallAttr).*"
                r"|_(cold|tuplegetter|outside|record|written_out|member_names)[0-9_]*")
LIBRARY = {"math": {"gcd", "lcm", "isqrt"}, "itertools": {"combinations", "permutations"}}
ON_THE_SPOT = {"zip", "enumerate", "reversed", "range"}
TAKERS = {"list", "tuple", "dict", "sorted", "sum", "any", "all", "enumerate", "zip", "min", "max", "len", "reversed"}


class Reader:
    """All faults of one file."""

    def __init__(self, name, text, own_methods):
        self.name = name
        self.text = text
        self.tree = ast.parse(text)
        self.own_methods = own_methods
        self.faults = []
        self.parents = {}
        for node in ast.walk(self.tree):
            for child in ast.iter_child_nodes(node):
                self.parents[child] = node

    def fault(self, rule, node, what=""):
        self.faults.append((self.name, rule, getattr(node, "lineno", 0), what))

    def read(self):
        self.read_lines()
        self.read_module_level()
        for node in ast.walk(self.tree):
            self.read_node(node)
        for node in ast.walk(self.tree):
            if isinstance(node, ast.FunctionDef):
                self.read_function(node)
            if isinstance(node, ast.ClassDef):
                self.read_class(node)
        return self.faults

    def read_lines(self):
        lines = self.text.split("\n")
        for word in re.findall(r"\w+", self.text):
            if re.fullmatch(BARRED_NAMES, word):
                self.faults.append((self.name, "L12", 0, word))
        if len(lines) - 1 > 399:
            self.faults.append((self.name, "L10", len(lines), "file"))
        for number, line in enumerate(lines, 1):
            if len(line) > 120 or line != line.rstrip():
                self.faults.append((self.name, "L10", number, "line"))
            if not all(" " <= sign <= "~" for sign in line):
                self.faults.append((self.name, "L14", number, "sign"))
        if not self.text.endswith("\n") or self.text.endswith("\n\n"):
            self.faults.append((self.name, "L14", len(lines), "end"))

    def read_module_level(self):
        bound = []
        for at, node in enumerate(self.tree.body):
            if isinstance(node, ast.Expr) and at == 0 and isinstance(node.value, ast.Constant):
                continue
            if isinstance(node, ast.ImportFrom):
                bound += [alias.name for alias in node.names]
                self.read_import(node)
            elif isinstance(node, (ast.FunctionDef, ast.ClassDef)):
                bound.append(node.name)
            elif isinstance(node, ast.Assign) and len(node.targets) == 1 and isinstance(node.targets[0], ast.Name):
                bound.append(node.targets[0].id)
                for inner in ast.walk(node.value):
                    if isinstance(inner, (ast.Call, ast.ListComp, ast.DictComp)):
                        self.fault("L3", node)
            else:
                self.fault("L3", node)
        for name in bound:
            if bound.count(name) > 1:
                self.faults.append((self.name, "L15", 0, name))
        self.bound = bound

    def read_import(self, node):
        if node.level:
            self.fault("L2", node)
        for alias in node.names:
            if alias.asname or alias.name == "*":
                self.fault("L2", node)
            if node.module in LIBRARY:
                if alias.name not in LIBRARY[node.module]:
                    self.fault("L2", node, alias.name)
            elif not node.module.startswith("farseen."):
                self.fault("L2", node, node.module)

    def read_node(self, node):
        if isinstance(node, ast.stmt) and not isinstance(node, STATEMENTS):
            self.fault("L6", node, ast.dump(node)[:40])
        if isinstance(node, BARRED_NODES):
            self.fault("L7", node, ast.dump(node)[:40])
        if isinstance(node, ast.Constant):
            self.read_constant(node)
        if isinstance(node, ast.Name):
            self.read_name(node)
        if isinstance(node, ast.Attribute):
            self.read_attribute(node)
        if isinstance(node, ast.Call):
            self.read_call(node)
        if isinstance(node, ast.Compare):
            self.read_compare(node)
        if isinstance(node, ast.Raise):
            if not isinstance(node.exc, ast.Call) or not isinstance(node.exc.func, ast.Name) or node.cause:
                self.fault("L19", node)
        if isinstance(node, ast.Try):
            if node.finalbody or any(not isinstance(handler.type, ast.Name) for handler in node.handlers):
                self.fault("L19", node)
        if isinstance(node, (ast.FunctionDef, ast.ClassDef)) and node.decorator_list:
            names = [getattr(one, "id", "") for one in node.decorator_list]
            if names != ["staticmethod"]:
                self.fault("L4", node)
        if isinstance(node, ast.BinOp) and isinstance(node.op, ast.Pow):
            if not isinstance(node.right, ast.Constant) or not 0 <= node.right.value <= 64:
                self.fault("L27", node)

    def read_constant(self, node):
        if isinstance(node.value, (float, complex, bytes)):
            self.fault("L7", node)
        if not isinstance(node.value, str):
            return
        if "%" in node.value or node.value.endswith(("._", ".__")) or "__" in node.value:
            self.fault("L27", node, node.value)
        parent = self.parents.get(node)
        if not isinstance(parent, ast.Expr):
            for word in re.findall(r"\w+", node.value):
                # The rule bars "open" as a name only: it is the word of a paper.
                if word in BARRED_WORDS and word != "open":
                    self.fault("L17", node, word)

    def read_name(self, node):
        if node.id in BARRED_WORDS:
            self.fault("L17", node, node.id)
        if hasattr(builtins, node.id):
            if node.id not in BUILTINS or not isinstance(node.ctx, ast.Load):
                self.fault("L8", node, node.id)
        if node.id == "_" and isinstance(node.ctx, ast.Load):
            self.fault("L12", node)
        if not re.fullmatch(r"_?[A-Za-z][A-Za-z0-9_]*|_", node.id):
            self.fault("L12", node, node.id)

    def read_attribute(self, node):
        if node.attr in ("__class__", "__name__"):
            parent = self.parents[node]
            if node.attr == "__class__" and not (isinstance(parent, ast.Attribute) and parent.attr == "__name__"):
                self.fault("L8", node)
        elif node.attr.startswith("__") and node.attr != "__init__":
            self.fault("L8", node, node.attr)
        if node.attr in BARRED_WORDS | {"format", "args"}:
            self.fault("L17", node, node.attr)

    def read_call(self, node):
        if isinstance(node.func, ast.Attribute):
            if node.func.attr not in METHODS | self.own_methods | {"__init__"}:
                self.fault("L25", node, node.func.attr)
        elif not isinstance(node.func, ast.Name):
            self.fault("L8", node)
        for one in node.args:
            if isinstance(one, ast.Starred) and not isinstance(one.value, (ast.Name, ast.Attribute)):
                self.fault("L7", node, "star")
        name = getattr(node.func, "id", getattr(node.func, "attr", ""))
        if isinstance(node.func, ast.Name) and hasattr(builtins, name) and node.keywords:
            if any(word.arg not in ("key", "reverse", "default", "start", "strict") for word in node.keywords):
                self.fault("L22", node)
        lazy = name in ON_THE_SPOT and isinstance(node.func, ast.Name)
        lazy = lazy or (name in ("items", "keys", "values") and isinstance(node.func, ast.Attribute))
        if lazy and not self.is_on_the_spot(node):
            self.fault("L23", node, name)
        if name in ("combinations", "permutations") and not self.is_on_the_spot(node):
            self.fault("L2", node, name)
        if name in ("any", "all", "sum", "min", "max", "sorted") and isinstance(node.func, ast.Name):
            if any(isinstance(one, ast.GeneratorExp) for one in node.args):
                self.fault("L7", node)

    def is_on_the_spot(self, node):
        parent = self.parents[node]
        if isinstance(parent, ast.For) and parent.iter is node:
            return True
        if isinstance(parent, ast.comprehension) and parent.iter is node:
            return True
        if isinstance(parent, ast.Compare) and isinstance(parent.ops[0], (ast.In, ast.NotIn)):
            return True
        if isinstance(parent, ast.Call) and isinstance(parent.func, ast.Name):
            return parent.func.id in TAKERS or parent.func.id in ("combinations", "permutations")
        return False

    def read_compare(self, node):
        for op, right in zip(node.ops, node.comparators):
            if isinstance(op, (ast.Is, ast.IsNot)):
                if not isinstance(right, ast.Constant) or right.value not in (None, True, False):
                    self.fault("L20", node)

    def read_function(self, node):
        if node.end_lineno - node.lineno + 1 > 40:
            self.fault("L10", node, node.name)
        args = node.args.posonlyargs + node.args.args + node.args.kwonlyargs
        args += [one for one in (node.args.vararg, node.args.kwarg) if one]
        names = [one.arg for one in args]
        if any(one.annotation for one in args) or node.returns:
            self.fault("L21", node)
        for inner in ast.walk(node):
            if isinstance(inner, ast.Name) and isinstance(inner.ctx, ast.Store):
                names.append(inner.id)
            if isinstance(inner, ast.FunctionDef) and inner is not node:
                self.fault("L4", inner, "nested")
            if isinstance(inner, ast.ExceptHandler) and inner.name:
                names.append(inner.name)
        for name in names:
            if name in self.bound or hasattr(builtins, name) or name in BARRED_WORDS:
                self.fault("L15", node, name)
        if node.name not in DUNDERS and (hasattr(builtins, node.name) or node.name in BARRED_WORDS):
            self.fault("L15", node, node.name)
        for default in node.args.defaults + [one for one in node.args.kw_defaults if one]:
            for inner in ast.walk(default):
                if not isinstance(inner, (ast.Constant, ast.Tuple, ast.UnaryOp, ast.USub, ast.Load)):
                    self.fault("L4", node)
        self.read_changes(node)
        if node.name.startswith("__"):
            self.read_dunder(node)

    def read_dunder(self, node):
        if node.name not in DUNDERS or not isinstance(self.parents[node], ast.ClassDef):
            self.fault("L5", node, node.name)
        returns = [inner for inner in ast.walk(node) if isinstance(inner, ast.Return)]
        if node.name == "__init__" and returns:
            self.fault("L28", node)
        if node.name == "__len__":
            for one in returns:
                if not (isinstance(one.value, ast.Call) and getattr(one.value.func, "id", "") == "len"):
                    self.fault("L28", node)
        if node.name == "__str__":
            for one in returns:
                plain = isinstance(one.value, (ast.JoinedStr, ast.Constant))
                joined = isinstance(one.value, ast.Call) and getattr(one.value.func, "attr", "") == "join"
                told = isinstance(one.value, ast.Call) and getattr(one.value.func, "id", "") in ("str", "repr")
                if not plain and not joined and not told:
                    self.fault("L28", node)
        if node.name not in ("__init__", "__call__"):
            if node.name in ("__len__", "__str__", "__bool__") and not isinstance(node.body[-1], ast.Return):
                self.fault("L28", node)
            for inner in ast.walk(node):
                if isinstance(inner, ast.Attribute) and not isinstance(inner.ctx, ast.Load):
                    self.fault("L28", node)

    def read_changes(self, node):
        """What a loop iterates over is not changed in it."""
        for loop in ast.walk(node):
            if not isinstance(loop, ast.For):
                continue
            names = set()
            iters = [loop.iter]
            while iters:
                one = iters.pop()
                if isinstance(one, ast.Call):
                    func = one.func
                    if isinstance(func, ast.Name) and func.id in ("enumerate", "zip", "reversed"):
                        iters += one.args
                    elif isinstance(func, ast.Attribute) and func.attr in ("items", "keys", "values"):
                        iters.append(func.value)
                elif isinstance(one, (ast.Name, ast.Attribute, ast.Subscript)):
                    names.add(ast.dump(one).replace("Store()", "Load()"))
            for inner in [one for row in loop.body for one in ast.walk(row)]:
                touched = []
                if isinstance(inner, ast.Subscript) and not isinstance(inner.ctx, ast.Load):
                    touched.append(inner.value)
                if isinstance(inner, ast.Call) and isinstance(inner.func, ast.Attribute):
                    if inner.func.attr in ("append", "pop", "insert", "extend", "remove", "clear", "update"):
                        touched.append(inner.func.value)
                if any(ast.dump(one).replace("Store()", "Load()") in names for one in touched):
                    self.fault("L23", inner, "changed")

    def read_class(self, node):
        methods = [one.name for one in node.body if isinstance(one, ast.FunctionDef)]
        if len(set(methods)) != len(methods):
            self.fault("L18", node)
        attributes = set()
        for inner in ast.walk(node):
            if isinstance(inner, ast.Attribute) and isinstance(inner.ctx, ast.Store):
                attributes.add(inner.attr)
        if attributes & set(methods):
            self.fault("L18", node, str(attributes & set(methods)))
        for one in node.body:
            docstring = isinstance(one, ast.Expr) and isinstance(one.value, ast.Constant)
            if not docstring and not isinstance(one, ast.FunctionDef):
                self.fault("L5", one)


def own_methods(texts):
    """The names of all methods of the package."""
    found = set()
    for text in texts:
        for node in ast.walk(ast.parse(text)):
            if isinstance(node, ast.ClassDef):
                found |= {one.name for one in node.body if isinstance(one, ast.FunctionDef)}
    return found


def class_faults(name, text, classes):
    """Classes that stand where no class may stand."""
    tree = ast.parse(text)
    fine = set()
    for node in ast.walk(tree):
        if isinstance(node, ast.Call):
            fine.add(id(node.func))
            if getattr(node.func, "id", "") == "isinstance":
                fine |= {id(one) for one in ast.walk(node.args[1])}
        if isinstance(node, ast.ClassDef):
            fine |= {id(one) for one in node.bases}
        if isinstance(node, ast.ExceptHandler):
            fine |= {id(one) for one in ast.walk(node.type)}
        if isinstance(node, ast.Attribute) and isinstance(node.ctx, ast.Load):
            fine.add(id(node.value))
    return [(name, "L18", node.lineno, node.id) for node in ast.walk(tree)
            if isinstance(node, ast.Name) and node.id in classes and id(node) not in fine]


def methods_off_classes(name, text, classes, static):
    """Methods that are read off a class by name."""
    return [(name, "L18", node.lineno, node.attr) for node in ast.walk(ast.parse(text))
            if isinstance(node, ast.Attribute) and isinstance(node.value, ast.Name) and node.value.id in classes
            and node.attr not in static]


def unused(name, text):
    """Imports and private names that are not used."""
    tree = ast.parse(text)
    used = {node.id for node in ast.walk(tree) if isinstance(node, ast.Name)}
    bound = []
    for node in tree.body:
        if isinstance(node, ast.ImportFrom):
            bound += [alias.name for alias in node.names]
        elif isinstance(node, ast.FunctionDef) and node.name.startswith("_"):
            bound.append(node.name)
    return [(name, "unused", 0, one) for one in bound if one not in used]


def imports_of(text):
    """The modules of the package that a file imports from, and what."""
    return [(node.module, alias.name) for node in ast.parse(text).body if isinstance(node, ast.ImportFrom)
            for alias in node.names if node.module.startswith("farseen.")]


def defined_in(text):
    """The names that a file itself defines."""
    names = []
    for node in ast.parse(text).body:
        if isinstance(node, (ast.FunctionDef, ast.ClassDef)):
            names.append(node.name)
        if isinstance(node, ast.Assign):
            names += [one.id for one in node.targets if isinstance(one, ast.Name)]
    return names
