"""The rules about imports and the level of modules: L2, L3, L11, L15, L16."""

import ast
import builtins

from checks.source import FUNCTIONS, above, methods_of

LIBRARY = {
    "heapq": ("heappush", "heappop", "heapify", "heapreplace", "heappushpop"),
    "math": ("gcd", "lcm", "isqrt", "comb", "perm", "factorial"),
}
READING_METHODS = ("get", "items", "keys", "values", "index", "count")


def check_modules(package):
    for module in package.modules:
        yield from _check_imports(package, module)
        yield from _check_library_names(module)
        yield from _check_body(module)
        yield from _check_bindings(module)
        yield from _check_tables(package, module)
    yield from _check_import_cycles(package)
    yield from _check_recursion(package)


def _leading_imports(module):
    body = module.tree.body
    rest = body[1:] if body and id(body[0]) in module.docstrings else body
    found = []
    for node in rest:
        if not isinstance(node, ast.ImportFrom):
            break
        found.append(node)
    return found


def _check_imports(package, module):
    leading = _leading_imports(module)
    for node in module.nodes:
        if isinstance(node, ast.Import):
            yield module.finding("L16", node, "a module is imported as a name")
        if not isinstance(node, ast.ImportFrom):
            continue
        if not any(node is one for one in leading):
            yield module.finding("L2", node, "an import that does not stand at the top")
        if node.level or any(alias.asname or alias.name == "*" for alias in node.names):
            yield module.finding("L2", node, "an import with a dot, a star or another name")
            continue
        for alias in node.names:
            yield from _check_import(package, module, node, alias.name)


def _check_import(package, module, node, name):
    if node.module in LIBRARY:
        if name not in LIBRARY[node.module]:
            yield module.finding("L2", node, f"{node.module} has no {name} that may be used")
        return
    front, _, stem = node.module.rpartition(".")
    source = package.by_stem.get(stem)
    if front != package.name or source is None or stem in ("__init__", "__main__"):
        yield module.finding("L2", node, f"{node.module} is no file of the package")
    elif name not in _defined(source):
        yield module.finding("L16", node, f"{node.module} does not define {name}")


def _defined(module):
    """The names that the body of a file defines, with the nodes that do so."""
    found = {}
    for node in module.tree.body:
        if isinstance(node, (ast.FunctionDef, ast.ClassDef)):
            found.setdefault(node.name, []).append(node)
        elif isinstance(node, ast.Assign):
            for target in node.targets:
                if isinstance(target, ast.Name):
                    found.setdefault(target.id, []).append(node)
    return found


def _check_library_names(module):
    names = {name for name, (source, _) in module.imports().items() if source in LIBRARY}
    for node in module.nodes:
        if not isinstance(node, ast.Name) or node.id not in names:
            continue
        call = node.parent
        called = isinstance(call, ast.Call) and call.func is node and not call.keywords
        if not called or above(node, FUNCTIONS) is None:
            yield module.finding("L2", node, f"{node.id} is not only called")


def _check_body(module):
    body = [node for node in module.tree.body if id(node) not in module.docstrings]
    if module.stem == "__init__" and body:
        yield module.finding("L16", body[0], "__init__.py holds more than a docstring")
    known = set()
    for node in body:
        if isinstance(node, ast.Assign):
            single = len(node.targets) == 1 and isinstance(node.targets[0], ast.Name)
            if not single or not _is_plain(node.value, known, 0):
                yield module.finding("L3", node, "a name is not assigned a plain value")
        elif isinstance(node, ast.FunctionDef):
            known.add(node.name)
        elif not isinstance(node, (ast.ClassDef, ast.Import, ast.ImportFrom)):
            yield module.finding("L3", node, "a statement that does not stand at module level")


def _is_plain(node, known, depth):
    if isinstance(node, ast.UnaryOp) and isinstance(node.op, ast.USub):
        return isinstance(node.operand, ast.Constant) and isinstance(node.operand.value, int)
    if isinstance(node, ast.Constant):
        return node.value is None or isinstance(node.value, (int, str))
    if isinstance(node, ast.Name):
        return node.id in known
    if isinstance(node, ast.Tuple):
        return all(_is_plain(one, known, depth) for one in node.elts)
    if isinstance(node, ast.List) and depth == 0:
        return all(_is_plain(one, known, 1) for one in node.elts)
    if isinstance(node, ast.Dict) and depth == 0:
        keys = all(isinstance(key, ast.Constant) for key in node.keys)
        return keys and all(_is_plain(one, known, 1) for one in node.values)
    return False


def _check_bindings(module):
    seen = {}
    for name, nodes in _defined(module).items():
        seen[name] = nodes
    for name, (_, node) in module.imports().items():
        seen.setdefault(name, []).append(node)
    for name, nodes in seen.items():
        if len(nodes) > 1:
            yield module.finding("L15", nodes[-1], f"{name} is bound twice")
        if name == "_":
            yield module.finding("L12", nodes[0], "_ is bound outside of a function")
    classes = {node.name for node in module.classes()}
    for name, node in _bound(module):
        # A shell, or a doctest, may have put its last answer into the builtins as _.
        builtin = hasattr(builtins, name) and name != "_"
        if builtin and not isinstance(getattr(node, "parent", None), ast.ClassDef):
            yield module.finding("L15", node, f"{name} is the name of a builtin")
        if above(node, FUNCTIONS) is not None and (name in classes or name in module.imports()):
            yield module.finding("L15", node, f"{name} is the name of a class or an import")
    for node in module.classes():
        if not isinstance(node.parent, ast.Module):
            yield module.finding("L15", node, "a class that is not defined at module level")


def _bound(module):
    for node in module.nodes:
        if isinstance(node, ast.Name) and not isinstance(node.ctx, ast.Load):
            yield node.id, node
        elif isinstance(node, ast.arg):
            yield node.arg, node
        elif isinstance(node, (ast.FunctionDef, ast.ClassDef)):
            yield node.name, node
        elif isinstance(node, ast.ExceptHandler) and node.name:
            yield node.name, node
        elif isinstance(node, ast.ImportFrom):
            for alias in node.names:
                yield alias.name, node


def _tables(module):
    """The names of this file's lists and dicts at module level."""
    found = set()
    for node in module.tree.body:
        if isinstance(node, ast.Assign) and isinstance(node.value, (ast.List, ast.Dict)):
            found.update(one.id for one in node.targets if isinstance(one, ast.Name))
    return found


def _check_tables(package, module):
    names = _tables(module)
    for name, (source, _) in module.imports().items():
        other = package.by_stem.get(source.rpartition(".")[2])
        if other is not None and name in _tables(other):
            names.add(name)
    for node in module.nodes:
        if isinstance(node, ast.Name) and node.id in names and above(node, FUNCTIONS) is not None:
            if not _only_reads(node):
                yield module.finding("L15", node, f"{node.id} is not only read")
        if isinstance(node, ast.Call) and isinstance(node.func, ast.Subscript):
            if isinstance(node.func.value, ast.Name) and node.func.value.id in names:
                yield module.finding("L3", node, "a function of a table is called without a name")


def _only_reads(node):
    parent = node.parent
    if isinstance(parent, ast.Subscript) and parent.value is node:
        return isinstance(parent.ctx, ast.Load)
    if isinstance(parent, (ast.For, ast.comprehension)):
        return parent.iter is node
    if isinstance(parent, ast.Compare):
        return True
    if isinstance(parent, ast.Attribute):
        return parent.attr in READING_METHODS and isinstance(parent.parent, ast.Call)
    called = isinstance(parent, ast.Call) and isinstance(parent.func, ast.Name)
    return called and parent.func.id in ("len", "list", "dict", "tuple", "sorted")


def _check_import_cycles(package):
    edges = {}
    for module in package.modules:
        stems = {source.rpartition(".")[2] for source, _ in module.imports().values()}
        edges[module.stem] = sorted(stem for stem in stems if stem in package.by_stem)
    for stem in _on_cycles(edges):
        module = package.by_stem[stem]
        yield module.finding("L16", module.tree, "files import from each other")


def _check_recursion(package):
    edges, places = {}, {}
    for module in package.modules:
        for function in module.functions():
            key = _key(module, function)
            places[key] = (module, function)
            edges[key] = []
            for node in ast.walk(function):
                edges[key].extend(_called(package, module, function, node))
    for key in _on_cycles(edges):
        module, function = places[key]
        yield module.finding("L11", function, f"{function.name} calls itself, directly or through others")


def _key(module, function):
    holder = above(function, (ast.ClassDef,) + FUNCTIONS)
    return (module.stem, getattr(holder, "name", ""), function.name)


def _called(package, module, function, node):
    """The keys of the own functions and methods that a node calls."""
    if not isinstance(node, ast.Call):
        return
    if isinstance(node.func, ast.Name):
        name = node.func.id
        source = module.imports().get(name, (module.stem, None))[0].rpartition(".")[2]
        if (source, name) in package.functions:
            yield (source, "", name)
        elif any(isinstance(one, ast.FunctionDef) and one.name == name for one in ast.walk(function)):
            yield (module.stem, function.name, name)
    elif isinstance(node.func, ast.Attribute):
        holder = above(function, ast.ClassDef)
        own = isinstance(node.func.value, ast.Name) and node.func.value.id == "self"
        if own and holder and node.func.attr in [one.name for one in methods_of(holder)]:
            yield (module.stem, holder.name, node.func.attr)


def _on_cycles(edges):
    """The nodes of a graph that can come back to themselves."""
    found = []
    for start in edges:
        seen, rest = set(), list(edges[start])
        while rest:
            node = rest.pop()
            if node not in seen:
                seen.add(node)
                rest.extend(edges.get(node, []))
        if start in seen:
            found.append(start)
    return found
