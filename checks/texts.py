"""The rules about files, characters, words and strings: L1, L10, L12, L14, L17, L27."""

import ast
import builtins
import re
import sys
import tokenize
import warnings

from checks.source import Finding, is_dunder

BARRED_WORDS = (
    "typing typing_extensions enum Enum IntEnum StrEnum Flag IntFlag Generic Protocol ABC ABCMeta "
    "namedtuple NamedTuple TypedDict TYPE_CHECKING abstractmethod"
).split()
BARRED_PARTS = ("dataclass", "overload", "contextmanager")
BARRED_NAMES = (
    "register mro elements open input law version_info with_traceback add_note attrgetter breakpoint "
    "builtins compile copyright credits delattr dir eval exec exit gc getattr globals hasattr help id "
    "importlib license locals methodcaller os quit setattr vars sys type super"
).split()
FRAME_NAME = re.compile(r"(f|tb|co|gi|cr|ag)_[a-z]+")
BARRED_STARTS = ("_wall", "_pe_", "_dcw_", "_enum_", "_cm_", "_twin_re_", "_lay_", "_law_", "_stub_", "_sre")
BARRED_STEMS = re.compile(r"_(cold|tuplegetter|outside|record|written_out|member_names)[0-9_]*")
BARRED_FILES = ("test", "tests", "testing", "site", "conftest", "sitecustomize", "usercustomize")


def check_files(name, files):
    """What the names and the bytes of the files tell, before any of them is parsed."""
    if name in sys.stdlib_module_names:
        yield Finding("L14", name, 1, "the package has the name of a library module")
    if "__init__.py" not in files:
        yield Finding("L14", name, 1, "there is no __init__.py")
    if len(files) > 100:
        yield Finding("L14", name, 1, "there are more than 100 files")
    if sum(len(data) for data in files.values()) > 2_000_000:
        yield Finding("L14", name, 1, "the files have more than two million characters")
    for file, data in files.items():
        yield from _check_file_name(file)
        yield from _check_characters(file, data)


def _check_file_name(file):
    if not re.fullmatch(r"[A-Za-z0-9_]+\.py", file):
        yield Finding("L1", file, 1, "the folder holds more than .py files with plain names")
        return
    stem = file[:-3]
    if stem == "__init__":
        return
    if stem == "__main__":
        yield Finding("L9", file, 1, "the document asks for no program that reads or prints")
    elif not re.fullmatch(r"[a-z][a-z0-9_]*", stem):
        yield Finding("L14", file, 1, "the file name is not lower-case")
    barred = stem in BARRED_FILES or stem in BARRED_WORDS or stem in BARRED_NAMES or hasattr(builtins, stem)
    if barred or stem.startswith(("law_", "test_")):
        yield Finding("L14", file, 1, "a file may not have this name")


def _check_characters(file, data):
    try:
        text = data.decode("utf-8")
    except UnicodeDecodeError:
        yield Finding("L1", file, 1, "the file is not UTF-8")
        return
    lines = text.split("\n")
    if len(text.splitlines()) > 399:
        yield Finding("L10", file, 400, "the file has more than 399 lines")
    for number, line in enumerate(lines, 1):
        if len(line) > 120:
            yield Finding("L10", file, number, "the line has more than 120 characters")
        if "\t" in line:
            yield Finding("L10", file, number, "there is a tab")
        if re.search(r"[^ -~\t]", line):
            yield Finding("L14", file, number, "a character is not from the space to ~")
        if "_wall" in line or "_WallAttr" in line:
            yield Finding("L12", file, number, "a word that stands nowhere in a file")


def check_texts(package):
    for module in package.modules:
        yield from _check_warnings(module)
        yield from _check_function_sizes(module)
        yield from _check_names(module)
        yield from _check_strings(module)
        yield from _check_tokens(module)


def _check_warnings(module):
    with warnings.catch_warnings():
        warnings.simplefilter("error")
        try:
            compile(module.text, module.file, "exec")
        except (SyntaxError, Warning) as error:
            yield Finding("L27", module.file, 1, f"Python warns: {error}")


def _check_function_sizes(module):
    for node in module.functions():
        first = min([node.lineno] + [one.lineno for one in node.decorator_list])
        if node.end_lineno - first + 1 > 40:
            yield module.finding("L10", node, f"{node.name} has more than 40 lines")


def _names(module):
    """Each name that a node binds or reads, with the node and whether it is an attribute or a method."""
    for node in module.nodes:
        if isinstance(node, ast.Name):
            yield node.id, node, False
        elif isinstance(node, ast.Attribute):
            yield node.attr, node, True
        elif isinstance(node, ast.arg):
            yield node.arg, node, False
        elif isinstance(node, ast.keyword) and node.arg:
            yield node.arg, node.value, False
        elif isinstance(node, (ast.FunctionDef, ast.ClassDef)):
            yield node.name, node, False
        elif isinstance(node, ast.ExceptHandler) and node.name:
            yield node.name, node, False
        elif isinstance(node, ast.alias):
            yield node.name, node, False


def _check_names(module):
    for name, node, is_attribute in _names(module):
        plain = name == "_" or re.fullmatch(r"_?[A-Za-z][A-Za-z0-9_]*", name)
        if is_dunder(name) and isinstance(node, ast.FunctionDef):
            plain = isinstance(node.parent, ast.ClassDef)
        if not plain or isinstance(node, ast.ClassDef) and name.startswith("_"):
            yield module.finding("L12", node, f"{name} is no plain name")
        if name == "_" and isinstance(getattr(node, "ctx", None), ast.Load):
            yield module.finding("L12", node, "_ is read")
        if name.startswith(BARRED_STARTS) or BARRED_STEMS.fullmatch(name):
            yield module.finding("L12", node, f"{name} is a barred name")
        barred = name in BARRED_NAMES or name in BARRED_WORDS or FRAME_NAME.fullmatch(name)
        if barred or any(part in name for part in BARRED_PARTS):
            yield module.finding("L17", node, f"{name} is a barred name")
        if is_attribute and name in ("format", "format_map"):
            yield module.finding("L8", node, f"no attribute is called {name}")


def _check_strings(module):
    for node in module.nodes:
        if not isinstance(node, ast.Constant) or id(node.parent) in module.docstrings:
            continue
        text = node.value
        if isinstance(text, int) and abs(text) >= 10 ** 900:
            yield module.finding("L27", node, "a number of more than 900 digits")
        if not isinstance(text, str):
            continue
        if "%" in text:
            yield module.finding("L27", node, "the character % in a string")
        if "__" in text or text.endswith("._") or FRAME_NAME.fullmatch(text):
            yield module.finding("L27", node, "a string that names a hidden part of Python")
        words = re.findall(r"\w+", text)
        if any(word in BARRED_WORDS or any(part in word for part in BARRED_PARTS) for word in words):
            yield module.finding("L17", node, "a barred word in a string")
        if len(text) > 50_000:
            yield module.finding("L3", node, "a string of more than 50000 characters")


def _check_tokens(module):
    for token in module.tokens:
        kind = tokenize.tok_name[token.type]
        line = token.start[0]
        if kind in ("STRING", "FSTRING_START"):
            prefix = re.match(r"[A-Za-z]*", token.string).group()
            if prefix not in ("", "f"):
                yield Finding("L27", module.file, line, f"a string with the prefix {prefix}")
        if kind in ("STRING", "FSTRING_MIDDLE"):
            rest = re.sub(r"\\[nt\\'\"]", "", token.string)
            if "\\" in rest:
                yield Finding("L27", module.file, line, "another escape than for a newline, tab, backslash or quote")
