"""Checks of the package against rules of the language that can be seen in the code."""

import ast
import builtins
import io
import os
import re
import tokenize

PACKAGE = os.path.join(os.path.dirname(os.path.dirname(os.path.abspath(__file__))), "sharefold")

BUILTINS = set("""len range enumerate zip min max sum abs sorted reversed int str bool bytes list tuple dict set
    frozenset isinstance ord repr any all divmod pow Exception ValueError TypeError KeyError IndexError
    LookupError ZeroDivisionError ArithmeticError OverflowError RuntimeError NotImplementedError AttributeError
    StopIteration NotImplemented""".split())
METHODS = set("""append clear copy count endswith extend find get index insert isalnum isalpha isdigit islower
    isspace isupper items join keys ljust lower lstrip partition pop remove replace reverse rfind rjust rpartition
    rsplit rstrip setdefault split splitlines startswith strip update upper values zfill bit_length""".split())
MODIFIERS = set("append clear extend insert pop remove reverse setdefault update".split())
BARRED = set("""register mro elements open input law version_info with_traceback add_note""".split())
BARRED_NAMES = BARRED | set("""attrgetter breakpoint builtins compile copyright credits delattr dir eval exec exit
    gc getattr globals hasattr help id importlib license locals methodcaller os quit setattr super type vars
    sys""".split())
BARRED_WORDS = set("""typing typing_extensions enum Enum IntEnum StrEnum Flag IntFlag Generic Protocol ABC ABCMeta
    namedtuple NamedTuple TypedDict TYPE_CHECKING abstractmethod""".split())
AT_ONCE = set("list tuple dict sorted sum any all enumerate zip min max".split())
STATEMENTS = (ast.Assign, ast.AugAssign, ast.If, ast.While, ast.For, ast.Return, ast.Break, ast.Continue, ast.Pass,
              ast.Raise, ast.Try, ast.Expr, ast.FunctionDef, ast.ClassDef, ast.ImportFrom, ast.ExceptHandler)
EXPRESSIONS = (ast.BoolOp, ast.BinOp, ast.UnaryOp, ast.IfExp, ast.Dict, ast.Compare, ast.Call, ast.JoinedStr,
               ast.FormattedValue, ast.Constant, ast.Attribute, ast.Subscript, ast.Starred, ast.Name, ast.List,
               ast.Tuple, ast.Slice, ast.ListComp, ast.DictComp)


def files():
    return sorted(os.listdir(PACKAGE))


class File:
    """A file of the package, and what is wrong with it."""

    def __init__(self, name):
        self.name = name
        with open(os.path.join(PACKAGE, name), encoding="utf-8") as stream:
            self.text = stream.read()
        self.tree = ast.parse(self.text)
        self.wrong = []
        for node in ast.walk(self.tree):
            for child in ast.iter_child_nodes(node):
                child.up = node

    def say(self, rule, node, what):
        self.wrong.append("%s:%s %s %s" % (self.name, getattr(node, "lineno", node), rule, what))

    def defined(self):
        return [node.name for node in self.tree.body if isinstance(node, (ast.FunctionDef, ast.ClassDef))]

    def imports(self):
        return [node for node in self.tree.body if isinstance(node, ast.ImportFrom)]


def check_lines(file):
    rows = file.text.split("\n")
    if len(rows) > 400 or not file.text.endswith("\n"):
        file.say("L10", 1, "too long, or without an end")
    for number, row in enumerate(rows, 1):
        if len(row) > 120 or any(not " " <= sign <= "~" for sign in row) or row.endswith(" "):
            file.say("L10/L14", number, "a line too long, or with another sign")
    for node in ast.walk(file.tree):
        if isinstance(node, ast.FunctionDef) and node.end_lineno - node.lineno + 1 > 40:
            file.say("L10", node, "function too long")


def check_module_level(file):
    bound = []
    for place, node in enumerate(file.tree.body):
        if isinstance(node, ast.Expr) and isinstance(node.value, ast.Constant) and place == 0:
            continue
        if isinstance(node, ast.ImportFrom):
            bound += [alias.name for alias in node.names]
            if node.level or not node.module.startswith("sharefold.") or any(a.asname for a in node.names):
                file.say("L2", node, "import")
        elif isinstance(node, ast.Assign) and len(node.targets) == 1 and isinstance(node.targets[0], ast.Name):
            bound.append(node.targets[0].id)
            for inner in ast.walk(node.value):
                if not isinstance(inner, (ast.Constant, ast.Tuple, ast.List, ast.Dict, ast.Load, ast.UnaryOp, ast.USub)):
                    file.say("L3", node, "module level value")
        elif isinstance(node, (ast.FunctionDef, ast.ClassDef)):
            bound.append(node.name)
        else:
            file.say("L3", node, "module level")
    if len(set(bound)) != len(bound):
        file.say("L15", 1, "a name bound twice")
    used = {node.id for node in ast.walk(file.tree) if isinstance(node, ast.Name)}
    for node in file.imports():
        for alias in node.names:
            if alias.name not in used:
                file.say("L2", node, "unused " + alias.name)


def check_nodes(file):
    for node in ast.walk(file.tree):
        if isinstance(node, ast.stmt) and not isinstance(node, STATEMENTS):
            file.say("L6", node, type(node).__name__)
        if isinstance(node, ast.expr) and not isinstance(node, EXPRESSIONS):
            file.say("L7", node, type(node).__name__)
        if isinstance(node, ast.BinOp) and isinstance(node.op, (ast.Div, ast.Pow, ast.MatMult)):
            file.say("L7/L27", node, "sign")
        if isinstance(node, (ast.FunctionDef, ast.ClassDef)) and node.decorator_list:
            file.say("L4/L5", node, "decorator")
        if isinstance(node, ast.FunctionDef):
            check_function(file, node)
        if isinstance(node, ast.Compare):
            check_compare(file, node)
        if isinstance(node, ast.Call):
            check_call(file, node)
        if isinstance(node, (ast.For, ast.comprehension)):
            check_loop(file, node)
        if isinstance(node, ast.ExceptHandler):
            check_handler(file, node)
        if isinstance(node, ast.Raise):
            check_raise(file, node)
        if isinstance(node, (ast.FunctionDef, ast.arg)) and (getattr(node, "returns", None) or getattr(node, "annotation", None)):
            file.say("L21", node, "annotation")


def check_function(file, node):
    args = node.args
    if args.vararg or args.kwarg or args.kwonlyargs or args.posonlyargs or args.defaults:
        file.say("L4", node, "parameters other than plain ones")
    if node.name.startswith("__") and node.name != "__init__":
        file.say("L5", node, node.name)
    if isinstance(node.up, ast.FunctionDef):
        file.say("L4", node, "nested")
    if node.name == "__init__":
        for inner in ast.walk(node):
            if isinstance(inner, ast.Return):
                file.say("L28", inner, "return")


def check_compare(file, node):
    for sign, right in zip(node.ops, node.comparators):
        if isinstance(sign, (ast.Is, ast.IsNot)):
            if not (isinstance(right, ast.Constant) and right.value in (None, True, False)):
                file.say("L20", node, "is")


def check_call(file, node):
    if node.keywords and not (isinstance(node.func, ast.Name) and node.func.id in BUILTINS):
        file.say("L22", node, "keyword")
    if isinstance(node.func, ast.Name) and node.func.id in ("zip", "enumerate", "reversed", "range", "map"):
        if not at_once(node):
            file.say("L23", node, node.func.id)
    if isinstance(node.func, ast.Name) and node.func.id in ("set", "frozenset", "bytes", "map", "iter", "next"):
        file.say("L24/L7", node, node.func.id)
    if isinstance(node.func, ast.Attribute) and node.func.attr in ("items", "keys", "values"):
        if not at_once(node):
            file.say("L23", node, node.func.attr)


def at_once(node):
    up = node.up
    if isinstance(up, (ast.For, ast.comprehension)):
        return up.iter is node
    if isinstance(up, ast.Call) and isinstance(up.func, ast.Name):
        if up.func.id == "reversed":
            return isinstance(node.func, ast.Name) and node.func.id == "range"
        return up.func.id in AT_ONCE and up.args[0] is node or up.func.id == "zip"
    return False


def check_loop(file, node):
    """What a loop goes over is not modified in it."""
    if not isinstance(node, ast.For):
        return
    over = {ast.dump(node.iter)}
    if isinstance(node.iter, ast.Call):
        over |= {ast.dump(arg) for arg in node.iter.args}
        if isinstance(node.iter.func, ast.Attribute):
            over.add(ast.dump(node.iter.func.value))
    for inner in [inner for row in node.body for inner in ast.walk(row)]:
        changed = []
        if isinstance(inner, ast.Call) and isinstance(inner.func, ast.Attribute) and inner.func.attr in MODIFIERS:
            changed = [inner.func.value]
        if isinstance(inner, (ast.Assign, ast.AugAssign)):
            targets = inner.targets if isinstance(inner, ast.Assign) else [inner.target]
            changed = [target.value for target in targets if isinstance(target, ast.Subscript)]
            changed += [target for target in targets if isinstance(inner, ast.AugAssign)]
        for target in changed:
            if ast.dump(target).replace("Store()", "Load()") in over:
                file.say("L23", inner, "modifies what the loop goes over")


def check_handler(file, node):
    names = node.type.elts if isinstance(node.type, ast.Tuple) else [node.type]
    for name in names:
        own = isinstance(name, ast.Name) and not hasattr(builtins, name.id)
        if not own and not (isinstance(name, ast.Name) and name.id in ("KeyError", "ZeroDivisionError")):
            file.say("L19", node, "handler")


def check_raise(file, node):
    if not (isinstance(node.exc, ast.Call) and isinstance(node.exc.func, ast.Name)):
        file.say("L19", node, "raise")
    elif node.exc.func.id not in [alias.name for row in file.imports() for alias in row.names]:
        file.say("L19", node, "raise of no imported error")


def names_bound(tree):
    """The pairs (node, name) of all names that are given a meaning."""
    for node in ast.walk(tree):
        if isinstance(node, ast.Name) and isinstance(node.ctx, ast.Store):
            yield node, node.id
        elif isinstance(node, ast.arg):
            yield node, node.arg
        elif isinstance(node, (ast.FunctionDef, ast.ClassDef)):
            yield node, node.name
        elif isinstance(node, ast.ExceptHandler) and node.name:
            yield node, node.name


def check_names(file):
    imported = [alias.name for row in file.imports() for alias in row.names]
    classes = [node.name for node in file.tree.body if isinstance(node, ast.ClassDef)]
    module = imported + file.defined() + [
        target.id for node in file.tree.body if isinstance(node, ast.Assign) for target in node.targets]
    for node, name in names_bound(file.tree):
        method = isinstance(node, ast.FunctionDef) and isinstance(node.up, ast.ClassDef)
        if name != "_" and hasattr(builtins, name) and not method:
            file.say("L15", node, "name of a builtin " + name)
        if name in BARRED_NAMES or not re.fullmatch("_|_?[A-Za-z][A-Za-z0-9_]*|__init__", name):
            file.say("L12/L17", node, name)
        if name in imported + classes and not isinstance(node, ast.ClassDef):
            file.say("L15", node, "name of an import or class " + name)
    for function in ast.walk(file.tree):
        if isinstance(function, ast.FunctionDef):
            local = {name for _, name in names_bound(function)}
            for node in ast.walk(function):
                if isinstance(node, ast.Name) and isinstance(node.ctx, ast.Load):
                    if node.id == "_" or node.id not in local | set(module) | BUILTINS:
                        file.say("L8/L12", node, node.id)


def check_attributes(file, own):
    for node in ast.walk(file.tree):
        if isinstance(node, ast.Attribute):
            if node.attr in BARRED or node.attr.startswith("__") and node.attr != "__init__":
                file.say("L17", node, node.attr)
            called = isinstance(node.up, ast.Call) and node.up.func is node
            if called and node.attr not in METHODS | own["methods"] | {"__init__"}:
                file.say("L25", node, node.attr)
            if not called and node.attr not in own["attributes"]:
                file.say("L18/L25", node, "attribute " + node.attr)


def check_strings(file):
    for token in tokenize.generate_tokens(io.StringIO(file.text).readline):
        if token.type == tokenize.STRING:
            if "%" in token.string or re.search(r"\\[^nt\\\"']", token.string.replace("\\\\", "")):
                file.say("L27", token.start[0], "string")
        elif token.type == tokenize.NAME:
            if token.string in BARRED_WORDS or token.string == "type":
                file.say("L17", token.start[0], token.string)
    for node in ast.walk(file.tree):
        if isinstance(node, ast.Constant) and isinstance(node.value, str):
            value = node.value
            if value.endswith(("._", ".__")) or value.startswith("__") and value.endswith("__") and value:
                file.say("L27", node, value)
            if not isinstance(node.up, ast.Expr) and BARRED_WORDS & set(re.findall(r"\w+", value)):
                file.say("L17", node, value)
        if isinstance(node, ast.Constant) and isinstance(node.value, (float, complex, bytes)):
            file.say("L7", node, "value")


def own_names(all_files):
    own = {"methods": set(), "attributes": set()}
    for file in all_files:
        for node in ast.walk(file.tree):
            if isinstance(node, ast.FunctionDef) and isinstance(node.up, ast.ClassDef):
                own["methods"].add(node.name)
            if isinstance(node, ast.Attribute) and isinstance(node.ctx, ast.Store):
                own["attributes"].add(node.attr)
    return own


def check_import_order(all_files):
    """Each import names the file that defines the name, and no files import each other."""
    wrong = []
    by_module = {"sharefold." + file.name[:-3]: file for file in all_files}
    needs = {}
    for module, file in by_module.items():
        needs[module] = {node.module for node in file.imports()}
        for node in file.imports():
            known = by_module[node.module].defined() + [
                target.id for row in by_module[node.module].tree.body if isinstance(row, ast.Assign)
                for target in row.targets]
            wrong += [f"{file.name} L16 {alias.name}" for alias in node.names if alias.name not in known]
    while needs:
        free = [module for module in needs if not needs[module] & set(needs)]
        if not free:
            return wrong + ["L16 in a circle: " + ", ".join(sorted(needs))]
        for module in free:
            del needs[module]
    return wrong


def all_wrong():
    all_files = [File(name) for name in files() if name.endswith(".py")]
    own = own_names(all_files)
    wrong = check_import_order(all_files)
    wrong += ["L18 a method and an attribute: " + name for name in sorted(own["methods"] & own["attributes"])]
    for file in all_files:
        check_lines(file)
        check_module_level(file)
        check_nodes(file)
        check_names(file)
        check_attributes(file, own)
        check_strings(file)
        wrong += file.wrong
    return wrong
