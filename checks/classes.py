"""The rules about classes: L5, L18, L26, L28."""

import ast

from checks.source import (
    ERROR_ROOTS, above, is_call_of, is_dunder, is_generator, is_method_call, is_property, methods_of, parameters,
)

DUNDERS = {"__init__": None, "__eq__": 2, "__contains__": 2, "__len__": 1, "__repr__": 1, "__str__": 1}
QUIET_CALLS = ("isinstance", "len", "str", "repr", "list", "tuple", "sorted", "any", "all", "min", "max", "sum", "bool")
QUIET_METHODS = ("join", "get", "startswith", "endswith", "find", "index", "count")
PYTHON_NAMES = {name for kind in (str, int, list, dict, set, bytes, tuple) for name in dir(kind)} | {"args", "sort"}


def check_classes(package):
    for module in package.modules:
        for node in module.classes():
            yield from _check_class(package, module, node)
        for node in module.nodes:
            yield from _check_class_name(package, module, node)
            yield from _check_attribute(package, module, node)
            if isinstance(node, ast.FunctionDef) and node.decorator_list:
                decorated = is_property(node) and len(node.decorator_list) == 1
                if not decorated or not isinstance(node.parent, ast.ClassDef):
                    yield module.finding("L4", node, "a decorator")
            if isinstance(node, ast.FunctionDef) and is_dunder(node.name):
                if not isinstance(node.parent, ast.ClassDef):
                    yield module.finding("L28", node, f"{node.name} stands outside of a class")


def _check_class(package, module, node):
    if node.decorator_list or node.keywords:
        yield module.finding("L5", node, "a decorator or a keyword at a class")
    yield from _check_bases(package, module, node)
    for child in node.body:
        if not isinstance(child, ast.FunctionDef) and id(child) not in module.docstrings:
            yield module.finding("L5", child, "a class holds methods and a docstring alone")
    names = [method.name for method in methods_of(node)]
    for method in methods_of(node):
        if names.count(method.name) > 1:
            yield module.finding("L18", method, f"{method.name} is defined twice")
        if method.name in package.attributes:
            yield module.finding("L18", method, f"{method.name} is a method and an attribute")
        if not is_dunder(method.name) and method.name in PYTHON_NAMES:
            yield module.finding("L26", method, f"values of Python's own have {method.name}, too")
        yield from _check_method(package, module, node, method)


def _check_bases(package, module, node):
    if len(node.bases) > 1 or not all(isinstance(base, ast.Name) for base in node.bases):
        yield module.finding("L5", node, "a class has one base class at most")
        return
    for base in node.bases:
        earlier = [one.name for one in module.classes() if one.lineno < node.lineno]
        imported = base.id in module.imports() and base.id in package.classes
        if base.id not in earlier and not imported and base.id not in ERROR_ROOTS:
            yield module.finding("L5", node, f"{base.id} is no own class above, and no error class")


def _check_method(package, module, node, method):
    name = method.name
    first = method.args.args[:1]
    if not first or first[0].arg != "self":
        yield module.finding("L5", method, "the first parameter of a method is self")
    if node.name in package.errors and name != "__init__":
        yield module.finding("L5", method, "an error class has an __init__ alone")
    if is_generator(method):
        yield module.finding("L23", method, "a method that yields")
    if is_dunder(name):
        if name not in DUNDERS:
            yield module.finding("L5", method, f"{name} is not among the methods that are allowed")
        elif DUNDERS[name] not in (None, len(parameters(method))) or name != "__init__" and method.args.defaults:
            yield module.finding("L5", method, f"{name} has other parameters")
    if is_property(method) and len(parameters(method)) != 1:
        yield module.finding("L5", method, "a property has other parameters")
    if name == "__init__":
        for one in ast.walk(method):
            if isinstance(one, ast.Return):
                yield module.finding("L28", one, "__init__ returns")
    elif is_property(method) or is_dunder(name):
        yield from _check_quiet(module, method)


def _check_quiet(module, method):
    """A property and an operator change nothing; here they also call nothing of the package."""
    rule = "L28" if method.name in ("__eq__", "__len__", "__repr__", "__str__") else "L5"
    allowed = (ast.Return, ast.If, ast.Assign)
    for node in ast.walk(method):
        if node is method or id(node) in module.docstrings:
            continue
        if isinstance(node, ast.stmt) and not isinstance(node, allowed):
            yield module.finding(rule, node, f"{method.name} holds more than returns, ifs and assignments")
        if isinstance(node, ast.Assign) and not all(isinstance(one, ast.Name) for one in node.targets):
            yield module.finding(rule, node, f"{method.name} changes something")
        if isinstance(node, ast.Call) and not is_call_of(node, *QUIET_CALLS):
            if not is_method_call(node, *QUIET_METHODS):
                yield module.finding(rule, node, f"{method.name} calls what may change something")
    if method.name in ("__len__", "__repr__", "__str__"):
        if not isinstance(method.body[-1], ast.Return):
            yield module.finding("L28", method, f"{method.name} does not end with a return")
        for node in ast.walk(method):
            if isinstance(node, ast.Return) and not _is_told(method.name, node.value):
                yield module.finding("L28", node, f"{method.name} returns another form")


def _is_told(name, value):
    if name == "__len__":
        return is_call_of(value, "len") or isinstance(value, ast.Constant) and isinstance(value.value, int)
    if isinstance(value, ast.Constant):
        return isinstance(value.value, str)
    joined = is_method_call(value, "join") and isinstance(value.func.value, ast.Constant)
    return isinstance(value, ast.JoinedStr) or is_call_of(value, "str", "repr") or joined


def _check_class_name(package, module, node):
    if not isinstance(node, ast.Name) or node.id not in package.classes:
        return
    parent = node.parent
    if isinstance(parent, ast.Tuple):
        parent = parent.parent
    stands = isinstance(parent, (ast.ClassDef, ast.ExceptHandler))
    if isinstance(parent, ast.Call):
        stands = parent.func is node or is_call_of(parent, "isinstance") and parent.args[0] is not node
    if not stands:
        yield module.finding("L18", node, f"the class {node.id} is used as a value")


def _check_attribute(package, module, node):
    if not isinstance(node, ast.Attribute):
        return
    name = node.attr
    if is_dunder(name):
        yield module.finding("L8", node, f"{name} stands outside of a definition")
        return
    if isinstance(node.ctx, ast.Load):
        known = name in package.attributes or name in package.methods or name in package.properties
        if not known and not (isinstance(node.parent, ast.Call) and node.parent.func is node):
            yield module.finding("L18", node, f"no class assigns the attribute {name}")
        return
    if isinstance(node.ctx, ast.Del):
        yield module.finding("L6", node, "an attribute is deleted")
    if not isinstance(node.value, ast.Name) or above(node, ast.FunctionDef) is None:
        yield module.finding("L18", node, "an attribute is not assigned through a local name")
    elif node.value.id in package.classes or (module.stem, node.value.id) in package.functions:
        yield module.finding("L18", node, "an attribute of a class or a function is assigned")
    if name in PYTHON_NAMES:
        yield module.finding("L26", node, f"values of Python's own have {name}, too")
    if name in package.properties or name in package.methods:
        yield module.finding("L18", node, f"{name} is an attribute and a method")
