"""The rules about statements: L4, L6, L19, L21, and the loops and generators of L23."""

import ast

from checks.source import FUNCTIONS, above, is_call_of, is_method_call, own_nodes, parameters

STATEMENTS = (
    ast.Assign, ast.AugAssign, ast.If, ast.While, ast.For, ast.Return, ast.Break, ast.Continue, ast.Pass,
    ast.Raise, ast.Assert, ast.Delete, ast.Try, ast.Expr, ast.FunctionDef, ast.ClassDef, ast.ImportFrom,
)
CAUGHT = ("KeyError", "ZeroDivisionError")
MODIFYING = (
    "append", "clear", "extend", "insert", "pop", "remove", "reverse", "setdefault", "sort", "update",
)
HEAPS = ("heappush", "heappop", "heapify", "heapreplace", "heappushpop")


def check_statements(package):
    for module in package.modules:
        for node in module.nodes:
            if isinstance(node, ast.stmt):
                yield from _check_statement(package, module, node)
            if isinstance(node, FUNCTIONS):
                yield from _check_parameters(module, node)
            if isinstance(node, (ast.For, ast.comprehension)):
                yield from _check_loop(package, module, node)
        for function in module.functions():
            if function.name in package.generators:
                yield from _check_generator(package, module, function)


def _check_statement(package, module, node):
    if isinstance(node, ast.AnnAssign):
        yield module.finding("L21", node, "an annotation")
    elif not isinstance(node, STATEMENTS + (ast.Import,)):
        yield module.finding("L6", node, f"the statement {node.__class__.__name__} is not used")
    if isinstance(node, ast.Expr) and id(node) not in module.docstrings:
        if not isinstance(node.value, (ast.Call, ast.Yield, ast.YieldFrom)):
            yield module.finding("L6", node, "a value on its own")
    if isinstance(node, (ast.Assign, ast.AugAssign)):
        for target in node.targets if isinstance(node, ast.Assign) else [node.target]:
            yield from _check_target(module, target)
        if isinstance(node, ast.AugAssign) and isinstance(node.target, ast.Subscript):
            if isinstance(node.target.slice, ast.Slice):
                yield module.finding("L6", node, "a slice is added to")
    elif isinstance(node, ast.Delete):
        if not all(isinstance(target, ast.Subscript) for target in node.targets):
            yield module.finding("L6", node, "del removes another thing than an item")
    elif isinstance(node, ast.Assert):
        if isinstance(node.test, ast.Tuple):
            yield module.finding("L6", node, "a tuple is asserted")
    elif isinstance(node, ast.Raise):
        yield from _check_raise(package, module, node)
    elif isinstance(node, ast.Try):
        yield from _check_try(package, module, node)


def _check_target(module, target):
    if isinstance(target, ast.Tuple):
        for one in target.elts:
            yield from _check_target(module, one)
    elif not isinstance(target, (ast.Name, ast.Subscript, ast.Attribute)):
        yield module.finding("L6", target, "another target than names, items and attributes")


def _check_raise(package, module, node):
    if node.cause is not None and not (isinstance(node.cause, ast.Constant) and node.cause.value is None):
        yield module.finding("L19", node, "raise .. from another thing than None")
    if node.exc is None:
        if above(node, ast.ExceptHandler) is None:
            yield module.finding("L19", node, "a bare raise outside of a handler")
    elif not is_call_of(node.exc, *package.errors):
        yield module.finding("L19", node, "raise does not create an own error on the spot")


def _check_try(package, module, node):
    if node.finalbody:
        yield module.finding("L6", node, "a finally")
    for handler in node.handlers:
        kinds = handler.type.elts if isinstance(handler.type, ast.Tuple) else [handler.type]
        for kind in kinds:
            if not isinstance(kind, ast.Name) or kind.id not in CAUGHT + tuple(package.errors):
                yield module.finding("L19", handler, "a handler of another error than an own one")
        if handler.name:
            yield from _check_caught(module, handler)


def _check_caught(module, handler):
    around = above(handler, FUNCTIONS)
    for node in ast.walk(around if around is not None else module.tree):
        if isinstance(node, ast.Name) and node.id == handler.name:
            read = isinstance(node.ctx, ast.Load) and isinstance(node.parent, ast.Attribute)
            if not read or node.parent.attr == "args" or not isinstance(node.parent.ctx, ast.Load):
                yield module.finding("L19", node, "more than the attributes of a caught error are read")
            if above(node, FUNCTIONS) is not around:
                yield module.finding("L19", node, "a nested function reads a caught error")


def _check_parameters(module, node):
    arguments = node.args
    if arguments.vararg or arguments.kwarg or arguments.posonlyargs:
        yield module.finding("L4", node, "a star or a slash among the parameters")
    if isinstance(node, ast.Lambda) and (arguments.defaults or arguments.kwonlyargs):
        yield module.finding("L4", node, "a lambda with more than plain parameters")
    for value in arguments.defaults + [one for one in arguments.kw_defaults if one is not None]:
        if not _is_plain_default(value):
            yield module.finding("L4", value, "a default value that is not plain")
    for one in parameters(node):
        if one.annotation is not None:
            yield module.finding("L21", one, "an annotation")
    if isinstance(node, ast.FunctionDef) and node.returns is not None:
        yield module.finding("L21", node, "an annotation")


def _is_plain_default(node):
    if isinstance(node, ast.UnaryOp) and isinstance(node.op, ast.USub):
        node = node.operand
        return isinstance(node, ast.Constant) and isinstance(node.value, int)
    if isinstance(node, ast.Tuple):
        return all(_is_plain_default(one) for one in node.elts)
    return isinstance(node, ast.Constant) and (node.value is None or isinstance(node.value, (int, str)))


def _check_loop(package, module, node):
    yield from _check_loop_target(module, node.target)
    if isinstance(node, ast.For):
        inside = node.body + node.orelse
    else:
        inside = [node.parent]
    keys = {key for one in _gone_over(package, node.iter) for key in [_key(one)] if key}
    for part in inside:
        for one in ast.walk(part):
            if _modified(one) in keys:
                yield module.finding("L23", one, "what a loop goes over is changed in it")


def _check_loop_target(module, target):
    if isinstance(target, ast.Tuple):
        for one in target.elts:
            yield from _check_loop_target(module, one)
    elif not isinstance(target, ast.Name):
        yield module.finding("L23", target, "a loop assigns to another thing than names")


def _gone_over(package, node):
    """The expressions that a loop over this one goes over."""
    if is_call_of(node, "enumerate", "zip", "reversed", *package.generators):
        return [part for one in node.args for part in _gone_over(package, one)]
    if is_method_call(node, "items", "keys", "values"):
        return _gone_over(package, node.func.value)
    if isinstance(node, ast.IfExp):
        return _gone_over(package, node.body) + _gone_over(package, node.orelse)
    if isinstance(node, ast.BoolOp):
        return [part for one in node.values for part in _gone_over(package, one)]
    return [node]


def _key(node):
    """What tells a name, an attribute of any object, or an item of either; None for all others."""
    if isinstance(node, ast.Name):
        return node.id
    if isinstance(node, ast.Attribute):
        return "." + node.attr
    if isinstance(node, ast.Subscript):
        inner = _key(node.value)
        return inner and inner + "[]"
    return None


def _modified(node):
    """The key of what this node itself changes, or a text that is no key."""
    if isinstance(node, ast.Subscript) and not isinstance(node.ctx, ast.Load):
        return _key(node.value)
    if isinstance(node, ast.AugAssign):
        return _key(node.target)
    if is_method_call(node, *MODIFYING):
        return _key(node.func.value)
    if is_call_of(node, *HEAPS) and node.args:
        return _key(node.args[0])
    return ""


def _check_generator(package, module, function):
    same = [one for other in package.modules for one in other.functions() if one.name == function.name]
    if len(same) > 1:
        yield module.finding("L23", function, "another function has the name of a generator")
    for node in own_nodes(function):
        if isinstance(node, (ast.Yield, ast.YieldFrom)):
            around = above(node, (ast.Try, ast.FunctionDef))
            if not isinstance(node.parent, ast.Expr) or isinstance(around, ast.Try):
                yield module.finding("L23", node, "a yield that is no statement, or stands under a try")
        if isinstance(node, ast.Return) and node.value is not None:
            yield module.finding("L23", node, "a generator returns a value")
