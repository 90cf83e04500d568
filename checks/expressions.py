"""The rules about expressions: L7, L8, L9, L13, L20, L22 to L25, L27."""

import ast
import builtins

from checks.source import COMPREHENSIONS, FUNCTIONS, above, is_call_of, is_dunder, is_method_call, parameters
from checks.source import methods_of

EXPRESSIONS = (
    ast.Constant, ast.Name, ast.Attribute, ast.Subscript, ast.Slice, ast.Call, ast.List, ast.Tuple, ast.Dict,
    ast.Set, ast.BinOp, ast.UnaryOp, ast.BoolOp, ast.Compare, ast.IfExp, ast.ListComp, ast.DictComp, ast.SetComp,
    ast.Lambda, ast.JoinedStr, ast.FormattedValue, ast.Yield, ast.YieldFrom,
)
# The least and the greatest number of arguments.
BUILTINS = {
    "len": (1, 1), "range": (1, 3), "enumerate": (1, 2), "zip": (1, 9), "min": (1, 9), "max": (1, 9),
    "sum": (1, 2), "abs": (1, 1), "sorted": (1, 1), "reversed": (1, 1), "int": (0, 1), "str": (0, 1),
    "bool": (0, 1), "list": (0, 1), "tuple": (0, 1), "dict": (0, 1), "set": (0, 1), "isinstance": (2, 2),
    "ord": (1, 1), "repr": (1, 1), "any": (1, 1), "all": (1, 1), "divmod": (2, 2),
}
METHODS = {
    "append": (1, 1), "clear": (0, 0), "copy": (0, 0), "count": (1, 3), "endswith": (1, 1), "extend": (1, 1),
    "find": (1, 3), "get": (1, 2), "index": (1, 3), "insert": (2, 2), "isalnum": (0, 0), "isalpha": (0, 0),
    "isdigit": (0, 0), "islower": (0, 0), "isspace": (0, 0), "isupper": (0, 0), "items": (0, 0), "join": (1, 1),
    "keys": (0, 0), "ljust": (1, 2), "lower": (0, 0), "lstrip": (0, 1), "partition": (1, 1), "pop": (0, 2),
    "remove": (1, 1), "replace": (2, 3), "reverse": (0, 0), "rfind": (1, 3), "rjust": (1, 2),
    "rpartition": (1, 1), "rsplit": (0, 2), "rstrip": (0, 1), "setdefault": (1, 2), "split": (0, 2),
    "splitlines": (0, 0), "startswith": (1, 3), "strip": (0, 1), "update": (1, 1), "upper": (0, 0),
    "values": (0, 0), "zfill": (1, 1), "bit_length": (0, 0), "removeprefix": (1, 1), "removesuffix": (1, 1),
}
KEYWORDS = {
    "sorted": ("key", "reverse"), "min": ("key", "default"), "max": ("key", "default"), "sum": ("start",),
    "enumerate": ("start",), "zip": ("strict",),
}
ERRORS = ("ValueError", "Exception", "KeyError", "ZeroDivisionError")
KINDS = ("int", "str", "bool", "list", "tuple", "dict")
KEYS = ("len", "int", "str", "abs", "sum", "min", "max", "tuple")
TAKERS = ("list", "tuple", "dict", "sorted", "sum", "any", "all", "enumerate", "zip", "min", "max")
SET_SIGNS = (ast.Sub, ast.BitAnd, ast.BitOr, ast.BitXor)


def check_expressions(package):
    for module in package.modules:
        bound = _bound_names(module)
        for node in module.nodes:
            if isinstance(node, ast.expr):
                yield from _check_kind(module, node)
            if isinstance(node, ast.Name) and isinstance(node.ctx, ast.Load):
                yield from _check_name(package, module, node, bound)
            if isinstance(node, ast.Call):
                yield from _check_call(package, module, node)
            if isinstance(node, COMPREHENSIONS):
                yield from _check_comprehension(module, node)
            if isinstance(node, (ast.Set, ast.SetComp)) or is_call_of(node, "set"):
                yield from _check_set(module, node)
            if isinstance(node, ast.Attribute):
                yield from _check_method_value(package, module, node)
        yield from _check_lambdas(module)


def _check_kind(module, node):
    if not isinstance(node, EXPRESSIONS):
        yield module.finding("L7", node, f"the expression {node.__class__.__name__} is not used")
    if isinstance(node, ast.Constant):
        if not (node.value is None or isinstance(node.value, (int, str))):
            yield module.finding("L7", node, "another literal than an integer, a string, True, False or None")
    elif isinstance(node, ast.BinOp):
        yield from _check_sign(module, node)
    elif isinstance(node, ast.Compare):
        yield from _check_compare(module, node)
    elif isinstance(node, ast.Dict) and any(key is None for key in node.keys):
        yield module.finding("L7", node, "a dict with stars")
    elif isinstance(node, ast.Subscript) and isinstance(node.value, (ast.List, ast.Tuple, ast.Dict, ast.Constant)):
        yield module.finding("L7", node, "a literal is indexed")
    elif isinstance(node, ast.Lambda):
        if not (isinstance(node.parent, ast.keyword) and node.parent.arg == "key"):
            yield module.finding("L4", node, "a lambda that is no key")
    elif isinstance(node, ast.JoinedStr):
        yield from _check_f_string(module, node)


def _check_sign(module, node):
    if isinstance(node.op, (ast.Div, ast.MatMult)):
        yield module.finding("L7", node, "a sign that is not used")
    if isinstance(node.op, ast.Pow):
        power = node.right.value if isinstance(node.right, ast.Constant) else None
        if not isinstance(power, int) or not 0 <= power <= 64:
            yield module.finding("L27", node, "an exponent that is no literal from 0 to 64")
    if isinstance(node.op, ast.Mod) and isinstance(node.left, (ast.Constant, ast.JoinedStr)):
        yield module.finding("L27", node, "a literal on the left of %")


def _check_compare(module, node):
    for sign, right in zip(node.ops, node.comparators):
        if isinstance(sign, (ast.Is, ast.IsNot)):
            if not isinstance(right, ast.Constant) or right.value not in (None, True, False):
                yield module.finding("L20", node, "is beside another thing than None, True and False")


def _check_f_string(module, node):
    if node.lineno != node.end_lineno:
        yield module.finding("L27", node, "an f-string over two lines")
    for part in node.values:
        if isinstance(part, ast.FormattedValue):
            if part.conversion != -1 or part.format_spec is not None:
                yield module.finding("L7", part, "a format in an f-string")
            for inner in ast.walk(part.value):
                if isinstance(inner, ast.JoinedStr) or isinstance(getattr(inner, "value", None), str):
                    yield module.finding("L27", part, "a string in the braces of an f-string")


def _bound_names(module):
    """All names that the file binds anywhere, and those of the lines that import."""
    found = set(module.imports())
    for node in module.nodes:
        if isinstance(node, ast.Name) and not isinstance(node.ctx, ast.Load):
            found.add(node.id)
        elif isinstance(node, ast.arg):
            found.add(node.arg)
        elif isinstance(node, (ast.FunctionDef, ast.ClassDef)) or isinstance(node, ast.ExceptHandler) and node.name:
            found.add(node.name)
    return found


def _check_name(package, module, node, bound):
    name, parent = node.id, node.parent
    called = isinstance(parent, ast.Call) and parent.func is node
    if name in bound:
        if name in package.generators and not called:
            yield module.finding("L23", node, "a generator is used as a value")
        return
    if name in ("print", "open", "input"):
        yield module.finding("L9", node, f"{name} reads or prints")
    elif name in ("chr", "pow"):
        yield module.finding("L27", node, f"{name} is not used")
    elif name == "property":
        if not isinstance(parent, ast.FunctionDef):
            yield module.finding("L5", node, "property stands over methods alone")
    elif name in ERRORS:
        caught = parent.parent if isinstance(parent, ast.Tuple) else parent
        if not isinstance(caught, (ast.ExceptHandler, ast.ClassDef)):
            yield module.finding("L19", node, f"{name} is used as a value")
    elif name not in BUILTINS:
        what = "is a builtin that is not used" if hasattr(builtins, name) else "is not bound in this file"
        yield module.finding("L8", node, f"{name} {what}")
    elif not called:
        as_key = isinstance(parent, ast.keyword) and parent.arg == "key" and name in KEYS
        if not as_key and not _is_kind(node):
            yield module.finding("L22", node, f"{name} is used as a value")


def _is_kind(node):
    """Whether a name stands in the second argument of isinstance."""
    holder = node.parent if isinstance(node.parent, ast.Tuple) else node
    call = holder.parent
    return is_call_of(call, "isinstance") and call.args[-1] is holder and node.id in KINDS


def _check_call(package, module, node):
    if any(isinstance(one, ast.Starred) for one in node.args) or any(one.arg is None for one in node.keywords):
        yield module.finding("L7", node, "a star in a call")
    elif isinstance(node.func, ast.Name):
        yield from _check_name_call(package, module, node)
    elif isinstance(node.func, ast.Attribute):
        yield from _check_method_call(package, module, node)
    elif not isinstance(node.func, ast.Subscript):
        yield module.finding("L7", node, "another thing than a name, an attribute or an item is called")
    elif node.keywords:
        yield module.finding("L22", node, "an item is called with keywords")


def _check_name_call(package, module, node):
    name = node.func.id
    many = len(node.args)
    own = package.function(module, name)
    if own is not None:
        yield from _check_arguments(module, node, own, 0)
        if own.name in package.generators and not _is_iterated(node):
            yield module.finding("L23", node, "the call of a generator is not iterated at once")
    elif name in package.classes:
        yield from _check_making(package, module, node)
    elif name in BUILTINS:
        least, most = BUILTINS[name]
        words = [one.arg for one in node.keywords]
        if not least <= many <= most or any(word not in KEYWORDS.get(name, ()) for word in words):
            yield module.finding("L22", node, f"{name} does not take these arguments")
        if name == "isinstance" and many == 2 and not _is_second(package, node.args[1]):
            yield module.finding("L22", node, "isinstance with another kind")
        for one in node.keywords:
            if one.arg in ("reverse", "strict") and not isinstance(one.value, ast.Constant):
                yield module.finding("L22", node, f"{one.arg} is no literal")
        if name in ("zip", "enumerate", "reversed", "range") and not _is_iterated(node):
            yield module.finding("L23", node, f"{name} is not iterated at once")
        if name == "reversed" and is_call_of(node.args[0], "zip", "enumerate", "reversed"):
            yield module.finding("L23", node, "reversed goes over a call that it may not")


def _is_second(package, node):
    parts = node.elts if isinstance(node, ast.Tuple) else [node]
    return all(isinstance(one, ast.Name) and one.id in KINDS + tuple(package.classes) for one in parts)


def _check_making(package, module, node):
    name = node.func.id
    made = _init_of(package, name)
    if made is not None:
        yield from _check_arguments(module, node, made, 1)
    elif name in package.errors:
        texts = [one for one in node.args if _is_text(one)]
        if node.keywords or len(texts) != len(node.args):
            yield module.finding("L22", node, "an error without an __init__ is made of another thing than strings")
    elif node.args or node.keywords:
        yield module.finding("L22", node, "a class without an __init__ is called with arguments")


def _is_text(node):
    return isinstance(node, ast.JoinedStr) or isinstance(node, ast.Constant) and isinstance(node.value, str)


def _init_of(package, name):
    while name in package.classes:
        node = package.classes[name]
        for method in methods_of(node):
            if method.name == "__init__":
                return method
        name = node.bases[0].id if node.bases and isinstance(node.bases[0], ast.Name) else ""
    return None


def _check_arguments(module, node, function, skipped):
    if not _fits(node, function, skipped):
        yield module.finding("L22", node, f"{function.name} does not take these arguments")


def _fits(node, function, skipped):
    arguments = function.args
    names = [one.arg for one in arguments.args][skipped:]
    if len(node.args) > len(names):
        return False
    given = names[:len(node.args)] + [one.arg for one in node.keywords]
    only = [one.arg for one in arguments.kwonlyargs]
    defaults = names[len(names) - len(arguments.defaults):] if arguments.defaults else []
    defaults += [name for name, value in zip(only, arguments.kw_defaults) if value is not None]
    once = len(given) == len({*given})
    return once and all(name in names + only for name in given) and all(
        name in given or name in defaults for name in names + only)


def _check_method_call(package, module, node):
    name = node.func.attr
    own = package.methods.get(name, [])
    if name in package.properties:
        yield module.finding("L5", node, f"the property {name} is called")
    elif own:
        if not any(_fits(node, method, 1) for method in own):
            yield module.finding("L22", node, f"{name} does not take these arguments")
    elif name not in METHODS:
        if name not in package.attributes and not is_dunder(name):
            yield module.finding("L25", node, f"the method {name} is not used")
    else:
        least, most = METHODS[name]
        if node.keywords or not least <= len(node.args) <= most:
            yield module.finding("L25", node, f"{name} does not take these arguments")
        if name in ("items", "keys", "values") and not _is_iterated(node):
            yield module.finding("L23", node, f"{name} is not iterated at once")


def _check_method_value(package, module, node):
    called = isinstance(node.parent, ast.Call) and node.parent.func is node
    if node.attr in package.methods and isinstance(node.ctx, ast.Load) and not called:
        yield module.finding("L25", node, f"the method {node.attr} is used as a value")


def _is_iterated(node):
    parent = node.parent
    if isinstance(parent, (ast.For, ast.comprehension)):
        return parent.iter is node
    if isinstance(parent, ast.YieldFrom):
        return True
    if isinstance(parent, ast.Compare):
        return is_call_of(node, "range") and isinstance(parent.ops[0], (ast.In, ast.NotIn)) and parent.left is not node
    if is_method_call(parent, "join"):
        return isinstance(parent.func.value, ast.Constant)
    if is_call_of(node, "range") and is_call_of(parent, "len", "reversed"):
        return True
    if is_call_of(parent, "min", "max"):
        return len(parent.args) == 1 and all(one.arg == "default" for one in parent.keywords)
    if not is_call_of(parent, *TAKERS):
        return False
    return is_call_of(parent, "zip") or parent.args[0] is node


def _targets(node):
    return {one.id for part in node.generators for one in ast.walk(part.target) if isinstance(one, ast.Name)}


def _check_comprehension(module, node):
    if above(node, FUNCTIONS) is None:
        yield module.finding("L7", node, "a comprehension outside of a function")
    if len(node.generators) > 6 or sum(len(part.ifs) for part in node.generators) > 12:
        yield module.finding("L7", node, "a comprehension with too many parts")
    outer = set()
    holder = above(node, COMPREHENSIONS + FUNCTIONS)
    nested = isinstance(holder, COMPREHENSIONS) or above(holder, FUNCTIONS) is not None
    while holder is not None and nested:
        if isinstance(holder, COMPREHENSIONS):
            outer |= _targets(holder)
        else:
            outer |= {one.arg for one in parameters(holder)}
            outer |= {one.id for one in ast.walk(holder) if isinstance(one, ast.Name)
                      and not isinstance(one.ctx, ast.Load) and above(one, COMPREHENSIONS + FUNCTIONS) is holder}
        holder = above(holder, COMPREHENSIONS + FUNCTIONS)
    if (_targets(node) & outer) - {"_"}:
        yield module.finding("L7", node, "a comprehension takes a name from further out")


def _check_set(module, node):
    if isinstance(node, ast.Call) and node.args and isinstance(node.args[0], (ast.Set, ast.SetComp)):
        yield module.finding("L24", node, "a set of a set")
    if isinstance(node, ast.Set):
        numbers = [one for one in ast.walk(node) if isinstance(one, ast.Constant) and isinstance(one.value, int)]
        if len(numbers) > 2:
            yield module.finding("L13", node, "a literal set with three or more integers")
    top = node
    while isinstance(top.parent, ast.BinOp) and isinstance(top.parent.op, SET_SIGNS):
        top = top.parent
    parent = top.parent
    stands = is_call_of(parent, "sorted", "len") and not parent.keywords
    if isinstance(parent, ast.Compare) and len(parent.ops) == 1:
        inside = isinstance(parent.ops[0], (ast.In, ast.NotIn)) and parent.comparators[0] is top
        beside = isinstance(parent.ops[0], (ast.Eq, ast.NotEq)) and _is_set(parent.left) and _is_set(
            parent.comparators[0])
        stands = inside or beside
    if not stands:
        yield module.finding("L24", node, "a set that is kept, passed on or gone over")


def _is_set(node):
    if isinstance(node, ast.BinOp) and isinstance(node.op, SET_SIGNS):
        return _is_set(node.left) and _is_set(node.right)
    return isinstance(node, (ast.Set, ast.SetComp)) or is_call_of(node, "set")


def _check_lambdas(module):
    lines = [node.lineno for node in module.nodes if isinstance(node, ast.Lambda)]
    for node in module.nodes:
        if isinstance(node, ast.Lambda) and lines.count(node.lineno) > 1:
            yield module.finding("L13", node, "two lambdas on one line")
