"""Looks the package's files over for what LANGUAGE.md does not allow.

The language known here is smaller than that of LANGUAGE.md: it leaves out
whole statements and expressions (with, match, sets, lambdas, nested functions,
keywords in calls ..) and with them the rules about them. A try catches own
errors alone, without their names, finally or else. Of the rest it sees what can be seen in the text of a file, not each clause. Code that
needs more of LANGUAGE.md is first let in here, with the rules that go with it.
"""

import ast
import builtins
import re
import warnings

PACKAGE = "stackproof"

STATEMENTS = (
    ast.Expr, ast.ImportFrom, ast.FunctionDef, ast.ClassDef, ast.Assign, ast.AugAssign,
    ast.If, ast.While, ast.For, ast.Return, ast.Break, ast.Continue, ast.Pass, ast.Raise,
    ast.Try,
)
EXPRESSIONS = (
    ast.Constant, ast.Name, ast.List, ast.Tuple, ast.Dict, ast.BinOp, ast.UnaryOp,
    ast.BoolOp, ast.Compare, ast.IfExp, ast.Call, ast.Attribute, ast.Subscript, ast.Slice,
    ast.ListComp, ast.JoinedStr, ast.FormattedValue,
)
BARRED_OPERATORS = (ast.Div, ast.MatMult, ast.Pow, ast.LShift, ast.RShift, ast.Invert)

# Builtins that are called, and names that stand elsewhere.
CALLED = (
    "len", "range", "enumerate", "zip", "min", "max", "sum", "abs", "sorted", "reversed",
    "int", "str", "bool", "list", "tuple", "dict", "isinstance", "any", "all",
)
ITERATED = ("range", "enumerate", "zip", "reversed", "items", "keys", "values")
ITERATING = ("list", "tuple", "dict", "sorted", "sum", "any", "all", "min", "max", "enumerate", "zip")
KINDS_ASKED = ("int", "str", "bool", "list", "tuple", "dict")
ERRORS = ("ValueError", "Exception")
METHODS = (
    "append", "copy", "count", "endswith", "extend", "find", "get", "index", "insert", "items",
    "join", "keys", "pop", "remove", "replace", "reverse", "setdefault", "split", "startswith",
    "strip", "update", "values",
)
MODIFYING = ("append", "extend", "insert", "pop", "remove", "reverse", "setdefault", "update", "clear")

# Names that nothing of the package has.
BARRED_NAMES = (
    "register", "mro", "elements", "open", "input", "law", "version_info", "with_traceback",
    "add_note", "attrgetter", "breakpoint", "builtins", "compile", "copyright", "credits",
    "delattr", "dir", "eval", "exec", "exit", "gc", "getattr", "globals", "hasattr", "help",
    "id", "importlib", "license", "locals", "methodcaller", "os", "quit", "setattr", "super",
    "type", "vars", "sys", "args", "format", "format_map", "sort", "encode", "decode", "hex",
    "fromhex", "_cold", "_tuplegetter", "_outside", "_record", "_written_out", "_member_names",
)
BARRED_STARTS = (
    "_wall", "_pe_", "_dcw_", "_enum_", "_cm_", "_twin_re_", "_lay_", "_law_", "_stub_", "_sre",
    "_WallAttr", "f_", "tb_", "co_", "gi_", "cr_", "ag_",
)
BARRED_WORDS = (
    "type", "typing", "typing_extensions", "enum", "Enum", "IntEnum", "StrEnum", "Flag",
    "IntFlag", "Generic", "Protocol", "ABC", "ABCMeta", "namedtuple", "NamedTuple",
    "TypedDict", "TYPE_CHECKING", "abstractmethod", "dataclass", "overload", "contextmanager",
)
BARRED_FILES = ("test", "tests", "testing", "site", "conftest", "sitecustomize", "usercustomize")


def package_faults(files):
    """The faults of a package: a dict from file names to texts is looked over."""
    found = []
    trees = {}
    for name, text in files.items():
        found += [f"{name}: {fault}" for fault in name_faults(name) + text_faults(text)]
        try:
            with warnings.catch_warnings():
                warnings.simplefilter("error")
                trees[name] = ast.parse(text)
                compile(text, name, "exec")
        except SyntaxError as why:
            return found + [f"{name}: L6: {why}"]
    for name, tree in trees.items():
        found += [f"{name}: {fault}" for fault in File(tree, name, trees).faults()]
    if "__init__.py" not in files:
        found.append("L14: no __init__.py")
    return found + circle_faults(trees)


def name_faults(name):
    if name == "__init__.py":
        return []
    if not re.fullmatch(r"[a-z][a-z0-9_]*\.py", name):
        return ["L1: not a plain name of a .py file"]
    word = name[:-3]
    barred = word in BARRED_FILES + BARRED_NAMES + BARRED_WORDS + tuple(dir(builtins))
    if barred or word.startswith(("law_", "test_")):
        return ["L14: a name that no file has"]
    return []


def text_faults(text):
    found = []
    lines = text.split("\n")
    if len(lines) > 400:
        found.append("L10: more than 399 lines")
    for at, line in enumerate(lines, 1):
        if len(line) > 120 or "\t" in line:
            found.append(f"L10: line {at}: a tab, or more than 120 characters")
        if not all(" " <= sign <= "~" for sign in line):
            found.append(f"L14: line {at}: a character that is not printable ASCII")
        if re.search(r"\b_wall\b|_WallAttr", line):
            found.append(f"L12: line {at}: a word that stands nowhere")
    return found


def circle_faults(trees):
    """Files that import each other, directly or through other files."""
    goes_to = {}
    for name, tree in trees.items():
        nodes = [node for node in tree.body if isinstance(node, ast.ImportFrom)]
        goes_to[name] = {file_of(node.module) for node in nodes}
    found = []
    for name in goes_to:
        reached = set()
        ahead = [name]
        while ahead:
            for other in goes_to.get(ahead.pop(), ()):
                if other not in reached:
                    reached.add(other)
                    ahead.append(other)
        if name in reached:
            found.append(f"{name}: L16: it imports itself through other files")
    return found


def file_of(module):
    """The file of a module of the package, or None."""
    parts = (module or "").split(".")
    if len(parts) == 2 and parts[0] == PACKAGE:
        return parts[1] + ".py"
    return None


def stored_names(tree):
    """The names that a tree assigns, parameters included."""
    names = [node.id for node in ast.walk(tree) if is_stored(node)]
    return names + [node.arg for node in ast.walk(tree) if isinstance(node, ast.arg)]


def is_stored(node):
    return isinstance(node, ast.Name) and isinstance(node.ctx, ast.Store)


def top_names(tree):
    """The names that a file binds at module level."""
    names = []
    for node in tree.body:
        if isinstance(node, (ast.FunctionDef, ast.ClassDef)):
            names.append(node.name)
        if isinstance(node, ast.ImportFrom):
            names += [alias.asname or alias.name for alias in node.names]
        if isinstance(node, ast.Assign):
            names += [target.id for target in node.targets if isinstance(target, ast.Name)]
    return names


def docstrings(tree):
    """The docstrings of a file, as nodes."""
    found = []
    for node in ast.walk(tree):
        if isinstance(node, (ast.Module, ast.FunctionDef, ast.ClassDef)) and ast.get_docstring(node) is not None:
            found.append(node.body[0].value)
    return found


def methods_of(tree):
    found = []
    for node in ast.walk(tree):
        if isinstance(node, ast.ClassDef):
            found += [part for part in node.body if isinstance(part, ast.FunctionDef)]
    return found


def class_names(trees):
    """The names of the classes of a package."""
    return [node.name for tree in trees.values() for node in ast.walk(tree) if isinstance(node, ast.ClassDef)]


class File:
    """One file of the package, looked over rule by rule."""

    def __init__(self, tree, name, trees):
        self.tree = tree
        self.name = name
        self.trees = trees
        self.found = []
        self.docstrings = docstrings(tree)
        self.parents = {}
        for node in ast.walk(tree):
            for child in ast.iter_child_nodes(node):
                self.parents[child] = node
        self.classes = [name for name in top_names(tree) if name in class_names(trees)]
        self.own_methods = [part.name for each in trees.values() for part in methods_of(each)]
        self.own_attributes = [
            node.attr for each in trees.values() for node in ast.walk(each)
            if isinstance(node, ast.Attribute) and isinstance(node.ctx, ast.Store)
        ]

    def faults(self):
        self.look_at_top()
        looks = {
            ast.ImportFrom: self.look_at_import, ast.FunctionDef: self.look_at_function,
            ast.ClassDef: self.look_at_class, ast.Name: self.look_at_name,
            ast.Attribute: self.look_at_attribute, ast.Call: self.look_at_call,
            ast.Constant: self.look_at_constant, ast.Compare: self.look_at_comparison,
            ast.Raise: self.look_at_raise, ast.For: self.look_at_loop,
            ast.Assign: self.look_at_assignment, ast.Expr: self.look_at_expression,
            ast.FormattedValue: self.look_at_braces, ast.Dict: self.look_at_dict,
            ast.Try: self.look_at_try,
        }
        for node in ast.walk(self.tree):
            self.look_at_kind(node)
            if node.__class__ in looks:
                looks[node.__class__](node)
        return self.found

    def tell(self, rule, node, what):
        self.found.append(f"{rule}: line {getattr(node, 'lineno', '?')}: {what}")

    def look_at_kind(self, node):
        if isinstance(node, ast.Import):
            self.tell("L2", node, "a module that is imported as a name")
        elif isinstance(node, ast.stmt) and not isinstance(node, STATEMENTS):
            self.tell("L6", node, f"{node.__class__.__name__} is not let in")
        if isinstance(node, ast.expr) and not isinstance(node, EXPRESSIONS):
            self.tell("L7", node, f"{node.__class__.__name__} is not let in")
        if isinstance(node, BARRED_OPERATORS):
            self.tell("L7", node, f"{node.__class__.__name__} is not let in")
        if isinstance(node, ast.comprehension) and len(node.ifs) > 12:
            self.tell("L7", node, "more than twelve ifs")

    def look_at_top(self):
        seen = []
        for at, node in enumerate(self.tree.body):
            if isinstance(node, ast.ImportFrom):
                before = self.tree.body[:at]
                if any(isinstance(other, (ast.FunctionDef, ast.ClassDef, ast.Assign)) for other in before):
                    self.tell("L2", node, "an import that does not stand at the top")
            elif isinstance(node, ast.Assign):
                plain = len(node.targets) == 1 and isinstance(node.targets[0], ast.Name)
                if not plain or not self.is_plain(node.value, seen, 0):
                    self.tell("L3", node, "not one name and a plain value")
            elif not isinstance(node, (ast.FunctionDef, ast.ClassDef)) and not self.is_docstring(node):
                self.tell("L3", node, "what does not stand at module level")
            if isinstance(node, ast.FunctionDef):
                seen.append(node.name)
        names = top_names(self.tree)
        for name in names:
            if names.count(name) > 1:
                self.tell("L15", self.tree, f"{name} is bound twice")

    def is_plain(self, node, functions, depth):
        """Whether this is a plain value; a list or dict stands outermost only."""
        if isinstance(node, ast.UnaryOp) and isinstance(node.op, ast.USub):
            node = node.operand
        if isinstance(node, ast.Constant):
            return True
        if isinstance(node, ast.Name):
            return depth > 0 and node.id in functions
        if isinstance(node, ast.Tuple) or (depth == 0 and isinstance(node, ast.List)):
            return all(self.is_plain(part, functions, depth + 1) for part in node.elts)
        if depth == 0 and isinstance(node, ast.Dict):
            parts = [part for part in node.keys + node.values if part is not None]
            return all(self.is_plain(part, functions, depth + 1) for part in parts)
        return False

    def is_docstring(self, node):
        return isinstance(node, ast.Expr) and node.value in self.docstrings

    def look_at_import(self, node):
        source = file_of(node.module)
        if node.level or source not in self.trees:
            self.tell("L2", node, "an import that is not of a module of the package, by its full name")
            return
        here = [part.name for part in self.trees[source].body if isinstance(part, (ast.FunctionDef, ast.ClassDef))]
        here += [
            target.id for part in self.trees[source].body if isinstance(part, ast.Assign)
            for target in part.targets if isinstance(target, ast.Name)
        ]
        for alias in node.names:
            if alias.asname or alias.name not in here:
                self.tell("L16", node, f"{alias.name} is not defined in {source}, or has another name here")

    def look_at_function(self, node):
        if node.end_lineno - node.lineno + 1 > 40:
            self.tell("L10", node, f"{node.name} has more than 40 lines")
        if not isinstance(self.parents[node], (ast.Module, ast.ClassDef)):
            self.tell("L4", node, "a nested function")
        told = node.args
        if node.decorator_list or told.vararg or told.kwarg or told.kwonlyargs or told.posonlyargs:
            self.tell("L4", node, "a decorator, a star or a bar among the parameters")
        for default in told.defaults:
            if not isinstance(default, ast.Constant):
                self.tell("L4", node, "a default value that is not plain")
        if node.returns or any(arg.annotation for arg in told.args):
            self.tell("L21", node, "an annotation")
        self.look_at_bound(node, node.name)
        for arg in told.args:
            self.look_at_bound(node, arg.arg)
        self.look_at_scope(node)

    def look_at_scope(self, node):
        """Each name that is read is bound here, at module level, or a builtin that is let in."""
        bound = stored_names(node) + top_names(self.tree)
        for part in ast.walk(node):
            if isinstance(part, ast.Name) and isinstance(part.ctx, ast.Load):
                if part.id not in bound and part.id not in CALLED + ERRORS:
                    self.tell("L8", part, f"{part.id} is not bound, and no builtin that is let in")
        apart = [
            alias.name for part in self.tree.body if isinstance(part, ast.ImportFrom) for alias in part.names
        ] + [part.name for part in self.tree.body if isinstance(part, ast.ClassDef)]
        for name in stored_names(node):
            if name in apart:
                self.tell("L15", node, f"{name} is a class or an import of this file")

    def look_at_class(self, node):
        if not isinstance(self.parents[node], ast.Module):
            self.tell("L15", node, "a class that does not stand at module level")
        if node.decorator_list or node.keywords or len(node.bases) > 1:
            self.tell("L5", node, "a decorator, a keyword or several bases")
        for part in node.body:
            if not isinstance(part, (ast.FunctionDef, ast.Pass)) and not self.is_docstring(part):
                self.tell("L5", part, "what does not stand in a class")
        names = [part.name for part in node.body if isinstance(part, ast.FunctionDef)]
        for name in names:
            if names.count(name) > 1 or name in self.own_attributes:
                self.tell("L18", node, f"{name} is defined twice, or an attribute too")
        for part in node.body:
            if isinstance(part, ast.FunctionDef) and part.name == "__init__":
                if any(isinstance(row, ast.Return) and row.value for row in ast.walk(part)):
                    self.tell("L28", part, "an __init__ that returns something")
        self.look_at_bound(node, node.name)

    def look_at_bound(self, node, name):
        """A name that the package gives to something."""
        method = isinstance(self.parents[node], ast.ClassDef) and isinstance(node, ast.FunctionDef)
        if name == "__init__" and method:
            return
        if not re.fullmatch(r"_|_?[A-Za-z][A-Za-z0-9_]*", name) or name.startswith(BARRED_STARTS):
            self.tell("L12", node, f"{name} is not a plain name")
        if name in BARRED_NAMES + BARRED_WORDS:
            self.tell("L17", node, f"{name} is a name that is not used")
        if name in dir(builtins):
            self.tell("L15", node, f"{name} is the name of a builtin")
        if method and name in dir(str) + dir(int) + dir(list) + dir(dict) + dir(set) + dir(bytes):
            self.tell("L26", node, f"{name} is a method of a builtin value")

    def look_at_name(self, node):
        if isinstance(node.ctx, ast.Store):
            self.look_at_bound(node, node.id)
            return
        if node.id == "_":
            self.tell("L12", node, "_ is read")
        parent = self.parents[node]
        called = isinstance(parent, ast.Call) and parent.func is node
        if node.id in CALLED and not called and not self.is_kind_asked(node):
            self.tell("L22", node, f"{node.id} is not called")
        if node.id in ERRORS and not (isinstance(parent, ast.ClassDef) or called):
            self.tell("L18", node, f"{node.id} is kept")
        if node.id in self.classes and not called and not isinstance(parent, (ast.ClassDef, ast.ExceptHandler)):
            self.tell("L18", node, f"{node.id} is kept")

    def is_kind_asked(self, node):
        """Whether this name stands in isinstance(x, C) or isinstance(x, (C, D))."""
        parent = self.parents[node]
        if isinstance(parent, ast.Tuple):
            node, parent = parent, self.parents[parent]
        asks = isinstance(parent, ast.Call) and isinstance(parent.func, ast.Name) and parent.func.id == "isinstance"
        if not asks or len(parent.args) != 2 or parent.args[1] is not node:
            return False
        return all(part.id in KINDS_ASKED for part in ast.walk(node) if isinstance(part, ast.Name))

    def look_at_attribute(self, node):
        parent = self.parents[node]
        if isinstance(node.ctx, ast.Store):
            if not isinstance(node.value, ast.Name) or node.value.id in top_names(self.tree):
                self.tell("L18", node, "an attribute that is not assigned through a local name")
            if node.attr in METHODS + MODIFYING + BARRED_NAMES or node.attr.startswith(BARRED_STARTS):
                self.tell("L26", node, f"{node.attr} is no name for an attribute")
        elif isinstance(parent, ast.Call) and parent.func is node:
            if node.attr not in METHODS and node.attr not in self.own_methods:
                self.tell("L25", node, f"{node.attr} is no method that is let in")
        elif node.attr not in self.own_attributes:
            self.tell("L25", node, f"{node.attr} is no attribute of the package")
        if node.attr.startswith("_") and not re.fullmatch(r"_[a-z][a-z0-9_]*|__init__", node.attr):
            self.tell("L8", node, f"{node.attr} is no plain name")

    def look_at_call(self, node):
        if node.keywords:
            self.tell("L22", node, "a keyword in a call")
        if not isinstance(node.func, (ast.Name, ast.Attribute)):
            self.tell("L3", node, "what is called has no name")
        called = node.func.id if isinstance(node.func, ast.Name) else getattr(node.func, "attr", "")
        if called in ITERATED and not self.is_iterated(node):
            self.tell("L23", node, f"{called} is not iterated at once")
        self.look_at_table(node)

    def is_iterated(self, node):
        parent = self.parents[node]
        if isinstance(parent, (ast.For, ast.comprehension)):
            return parent.iter is node
        asks = isinstance(parent, ast.Call) and isinstance(parent.func, ast.Name)
        return asks and parent.func.id in ITERATING and parent.args[0] is node

    def look_at_table(self, node):
        """No call changes what stands at module level."""
        if isinstance(node.func, ast.Attribute) and isinstance(node.func.value, ast.Name):
            if node.func.value.id in top_names(self.tree) and node.func.attr in MODIFYING:
                self.tell("L15", node, f"{node.func.value.id} is changed")

    def look_at_constant(self, node):
        if not (node.value is None or isinstance(node.value, (bool, int, str))):
            self.tell("L7", node, f"{node.value!r} is not let in")
        if not isinstance(node.value, str) or node in self.docstrings:
            return
        text = node.value
        if "%" in text or "__" in text or text.endswith("._") or not re.fullmatch(r"[ -~\n]*", text):
            self.tell("L27", node, f"{text!r} is not let in")
        for word in re.findall(r"[A-Za-z_]+", text):
            if word in BARRED_WORDS or word.startswith(BARRED_STARTS):
                self.tell("L17", node, f"{word} is a word that is not used")

    def look_at_comparison(self, node):
        for operator, right in zip(node.ops, node.comparators):
            if isinstance(operator, (ast.Is, ast.IsNot)):
                if not isinstance(right, ast.Constant) or not (right.value is None or isinstance(right.value, bool)):
                    self.tell("L20", node, "is beside something other than None, True, False")

    def look_at_raise(self, node):
        if node.cause or not (isinstance(node.exc, ast.Call) and isinstance(node.exc.func, ast.Name)):
            self.tell("L19", node, "an error that is not made on the spot")
            return
        if node.exc.func.id not in top_names(self.tree) or not node.exc.func.id[0].isupper():
            self.tell("L19", node, f"{node.exc.func.id} is no own error")

    def look_at_try(self, node):
        if node.finalbody or node.orelse:
            self.tell("L6", node, "a finally or an else of a try is not let in")
        for handler in node.handlers:
            kind = handler.type
            if not isinstance(kind, ast.Name) or kind.id not in self.classes or handler.name:
                self.tell("L19", handler, "a handler that is not of one own error, or that names it")

    def look_at_loop(self, node):
        """What a loop goes over is not changed in it."""
        over = [part.id for part in ast.walk(node.iter) if isinstance(part, ast.Name)]
        for part in ast.walk(ast.Module(body=node.body, type_ignores=[])):
            target = None
            if isinstance(part, ast.Call) and isinstance(part.func, ast.Attribute) and part.func.attr in MODIFYING:
                target = part.func.value
            if isinstance(part, ast.Subscript) and isinstance(part.ctx, ast.Store):
                target = part.value
            if isinstance(part, ast.AugAssign):
                target = part.target
            if isinstance(target, ast.Name) and target.id in over:
                self.tell("L23", part, f"{target.id} is changed in its loop")

    def look_at_assignment(self, node):
        for target in node.targets:
            root = target.value if isinstance(target, (ast.Subscript, ast.Attribute)) else None
            if isinstance(root, ast.Name) and root.id in top_names(self.tree):
                self.tell("L15", node, f"{root.id} is changed")

    def look_at_expression(self, node):
        if not isinstance(node.value, ast.Call) and not self.is_docstring(node):
            self.tell("L6", node, "a statement that is neither a call nor a docstring")

    def look_at_braces(self, node):
        if node.format_spec or node.conversion != -1:
            self.tell("L7", node, "a format in an f-string")
        if any(isinstance(part, ast.Constant) and isinstance(part.value, str) for part in ast.walk(node.value)):
            self.tell("L27", node, "a string inside the braces of an f-string")

    def look_at_dict(self, node):
        if any(key is None for key in node.keys):
            self.tell("L7", node, "a star in a dict")
