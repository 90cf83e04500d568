"""Reads the files of a package into trees, and into the tables that the rules ask for."""

import ast
import io
import re
import tokenize
import warnings
from pathlib import Path
from typing import NamedTuple

FUNCTIONS = (ast.FunctionDef, ast.Lambda)
COMPREHENSIONS = (ast.ListComp, ast.SetComp, ast.DictComp)
ERROR_ROOTS = ("ValueError", "Exception")


class Finding(NamedTuple):
    rule: str
    file: str
    line: int
    why: str

    def __str__(self):
        return f"{self.file}:{self.line}: {self.rule}: {self.why}"


class Module:
    """One file: its text, its tree with a parent at each node, and its tokens."""

    def __init__(self, file, text):
        self.file = file
        self.stem = file[:-3]
        self.text = text
        with warnings.catch_warnings():
            # Warnings are findings of their own (L27).
            warnings.simplefilter("ignore")
            self.tree = ast.parse(text)
        for node in ast.walk(self.tree):
            for child in ast.iter_child_nodes(node):
                child.parent = node
        self.nodes = list(ast.walk(self.tree))
        self.tokens = list(tokenize.generate_tokens(io.StringIO(text).readline))
        self.docstrings = {id(node) for node in self.nodes if is_docstring(node)}

    def finding(self, rule, node, why):
        return Finding(rule, self.file, getattr(node, "lineno", 1), why)

    def functions(self):
        return [node for node in self.nodes if isinstance(node, ast.FunctionDef)]

    def classes(self):
        return [node for node in self.nodes if isinstance(node, ast.ClassDef)]

    def imports(self):
        """The imported names: name -> (module, node)."""
        found = {}
        for node in self.nodes:
            if isinstance(node, ast.ImportFrom):
                for alias in node.names:
                    found[alias.name] = (node.module or "", node)
        return found


class Package:
    """All files of a package, and which names mean what in it."""

    def __init__(self, name, modules):
        self.name = name
        self.modules = modules
        self.by_stem = {module.stem: module for module in modules}
        self.classes = {}
        self.functions = {}
        self.methods = {}
        self.properties = {}
        self.attributes = {}
        self.generators = {}
        for module in modules:
            self._read(module)
        self.errors = {name for name in self.classes if self._is_error(name)}

    def _read(self, module):
        for node in module.classes():
            self.classes[node.name] = node
            for method in methods_of(node):
                kind = self.properties if is_property(method) else self.methods
                kind.setdefault(method.name, []).append(method)
        for node in module.functions():
            if isinstance(node.parent, ast.Module):
                self.functions[(module.stem, node.name)] = node
            if is_generator(node):
                self.generators[node.name] = node
        for node in module.nodes:
            if isinstance(node, ast.Attribute) and isinstance(node.ctx, ast.Store):
                self.attributes.setdefault(node.attr, []).append(node)

    def _is_error(self, name):
        for _ in range(100):
            if name in ERROR_ROOTS:
                return True
            node = self.classes.get(name)
            if node is None or len(node.bases) != 1 or not isinstance(node.bases[0], ast.Name):
                return False
            name = node.bases[0].id
        return False

    def function(self, module, name):
        """The own function that a bare name means in a file, or None."""
        if name in module.imports():
            source = module.imports()[name][0]
            return self.functions.get((source.rpartition(".")[2], name))
        return self.functions.get((module.stem, name))


def read_package(folder):
    """The files below a folder, by their places in it, as bytes."""
    folder = Path(folder)
    found = {}
    for path in sorted(folder.rglob("*")):
        if path.is_file() and "__pycache__" not in path.parts:
            found[path.relative_to(folder).as_posix()] = path.read_bytes()
    return found


def is_docstring(node):
    if not isinstance(node, ast.Expr) or not isinstance(node.value, ast.Constant):
        return False
    body = getattr(node.parent, "body", None)
    holder = isinstance(node.parent, (ast.Module, ast.ClassDef, ast.FunctionDef))
    return isinstance(node.value.value, str) and holder and body[0] is node


def methods_of(node):
    return [child for child in node.body if isinstance(child, ast.FunctionDef)]


def is_method(node):
    return isinstance(node, ast.FunctionDef) and isinstance(node.parent, ast.ClassDef)


def is_property(node):
    return any(isinstance(one, ast.Name) and one.id == "property" for one in node.decorator_list)


def is_dunder(name):
    return re.fullmatch(r"__\w+__", name) is not None


def own_nodes(function):
    """The nodes of a function without those of functions nested in it."""
    rest = list(ast.iter_child_nodes(function))
    while rest:
        node = rest.pop()
        yield node
        if not isinstance(node, FUNCTIONS):
            rest.extend(ast.iter_child_nodes(node))


def is_generator(function):
    return any(isinstance(node, (ast.Yield, ast.YieldFrom)) for node in own_nodes(function))


def above(node, kinds):
    """The nearest node of these kinds around a node, or None."""
    while hasattr(node, "parent"):
        node = node.parent
        if isinstance(node, kinds):
            return node
    return None


def is_call_of(node, *names):
    return isinstance(node, ast.Call) and isinstance(node.func, ast.Name) and node.func.id in names


def is_method_call(node, *names):
    return isinstance(node, ast.Call) and isinstance(node.func, ast.Attribute) and node.func.attr in names


def parameters(function):
    arguments = function.args
    return arguments.posonlyargs + arguments.args + arguments.kwonlyargs
