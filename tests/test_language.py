"""The text of the package keeps to the subset of the language that it is written in."""

import ast
import builtins
import pathlib
import re
import unittest
import warnings

PACKAGE = pathlib.Path(__file__).resolve().parent.parent / "unseenfolds"
FILES = sorted(PACKAGE.glob("*.py"))

# The modules in the order of the interface: each one imports only from modules before it.
MODULES = (
    "errors", "kinds", "tables", "witnesses", "strands", "strandrows", "feedtexts", "feeds", "lines", "cells",
    "copies", "verdicts", "leastkinds", "nets", "nettexts", "unders", "packing", "folds", "goals", "spans", "ways",
    "covers", "lacking", "mending", "settling", "blows", "flows", "strengths", "topways", "plans", "costs", "losses",
    "tolerances", "arrivals", "spreads", "scans", "tight", "rounds", "windows", "desks", "trials", "listings",
)

LIBRARY = {
    "math": {"gcd", "lcm", "isqrt", "comb", "perm", "factorial"},
    "heapq": {"heappush", "heappop", "heapify", "heapreplace", "heappushpop"},
}

BUILTINS = {
    "len", "range", "enumerate", "zip", "min", "max", "sum", "abs", "sorted", "reversed", "int", "str", "bool",
    "list", "tuple", "dict", "set", "isinstance", "ord", "repr", "any", "all", "divmod", "Exception", "ValueError",
    "TypeError", "KeyError", "IndexError", "LookupError", "ZeroDivisionError", "NotImplemented", "iter", "next",
    "map", "property", "staticmethod", "classmethod", "super",
}

METHODS = {
    "append", "clear", "copy", "count", "endswith", "extend", "find", "get", "index", "insert", "isalnum",
    "isalpha", "isdigit", "islower", "isspace", "isupper", "items", "join", "keys", "ljust", "lower", "lstrip",
    "partition", "pop", "remove", "replace", "reverse", "rfind", "rjust", "rpartition", "rsplit", "rstrip",
    "setdefault", "split", "splitlines", "startswith", "strip", "update", "upper", "values", "zfill", "bit_length",
    "add", "discard",
}

BARRED_NAMES = {
    "register", "mro", "elements", "open", "input", "law", "version_info", "with_traceback", "add_note",
    "attrgetter", "breakpoint", "builtins", "compile", "copyright", "credits", "delattr", "dir", "eval", "exec",
    "exit", "gc", "getattr", "globals", "hasattr", "help", "id", "importlib", "license", "locals", "methodcaller",
    "os", "quit", "setattr", "sys", "type", "vars", "hash", "round", "format", "filter", "slice", "object", "pow",
    "bin", "hex", "oct", "chr", "print", "callable", "bytes", "frozenset", "float", "complex", "memoryview",
}

BARRED_WORDS = (
    "type", "typing", "typing_extensions", "enum", "Enum", "IntEnum", "StrEnum", "Flag", "IntFlag", "Generic",
    "Protocol", "ABC", "ABCMeta", "namedtuple", "NamedTuple", "TypedDict", "TYPE_CHECKING", "abstractmethod",
)

SPECIAL_METHODS = {
    "__init__", "__eq__", "__repr__", "__str__", "__len__", "__enter__", "__exit__", "__call__", "__iter__",
    "__rshift__", "__rrshift__", "__add__", "__or__", "__invert__", "__contains__",
}

STATEMENTS = (
    ast.Assign, ast.AugAssign, ast.If, ast.While, ast.For, ast.Return, ast.Break, ast.Continue, ast.Pass, ast.Raise,
    ast.Assert, ast.Delete, ast.Try, ast.With, ast.Expr, ast.FunctionDef, ast.ClassDef, ast.ImportFrom,
)

BARRED_EXPRESSIONS = (ast.Await, ast.Set, ast.Div, ast.MatMult, ast.NamedExpr)


def parsed(path):
    """Returns the tree of a file; a warning of Python's is an error."""
    with warnings.catch_warnings():
        warnings.simplefilter("error")
        compile(path.read_text(), str(path), "exec")
        return ast.parse(path.read_text())


def own_names(tree):
    """Returns the names that a file binds: imports, functions, classes, parameters, variables and caught errors."""
    names = set()
    for node in ast.walk(tree):
        if isinstance(node, ast.alias):
            names.add(node.name)
        elif isinstance(node, (ast.FunctionDef, ast.ClassDef)):
            names.add(node.name)
        elif isinstance(node, ast.arg):
            names.add(node.arg)
        elif isinstance(node, ast.Name) and isinstance(node.ctx, ast.Store):
            names.add(node.id)
        elif isinstance(node, ast.ExceptHandler) and node.name is not None:
            names.add(node.name)
    return names


MODIFYING = {"append", "clear", "extend", "insert", "pop", "remove", "reverse", "setdefault", "update", "sort"}


def choices(node):
    """Returns the texts of the names, attributes and entries that an expression may be."""
    if isinstance(node, ast.IfExp):
        return choices(node.body) | choices(node.orelse)
    if isinstance(node, ast.BoolOp):
        return set().union(*[choices(entry) for entry in node.values])
    return {ast.unparse(node)} if isinstance(node, (ast.Name, ast.Attribute, ast.Subscript)) else set()


def walked(node):
    """Returns the texts of what a loop over this expression walks itself, and not a copy of."""
    if isinstance(node, ast.Call) and isinstance(node.func, ast.Name):
        if node.func.id in ("enumerate", "zip", "reversed", "map"):
            return set().union(*[walked(entry) for entry in node.args])
        return set()
    if isinstance(node, ast.Call) and node.func.attr in ("items", "keys", "values"):
        return walked(node.func.value)
    return choices(node)


def other_names(function):
    """Returns a dict from each text that a function assigns, or assigns from, to all texts for the same thing."""
    groups = {}
    for node in ast.walk(function):
        if isinstance(node, ast.Assign):
            texts = choices(node.value)
            if not texts:
                continue
            for target in node.targets:
                texts |= choices(target)
            for text in list(texts):
                texts |= groups.get(text, set())
            for text in texts:
                groups[text] = texts
    return groups


def modified(loop):
    """Returns the texts of what the rows of a loop modify."""
    texts = set()
    for node in [node for row in loop.body for node in ast.walk(row)]:
        if isinstance(node, ast.Call) and isinstance(node.func, ast.Attribute) and node.func.attr in MODIFYING:
            texts |= choices(node.func.value)
        if isinstance(node, ast.Subscript) and not isinstance(node.ctx, ast.Load):
            texts |= choices(node.value)
        if isinstance(node, ast.AugAssign):
            texts |= choices(node.target)
    return texts


def changed_walks(tree):
    """Returns the rows of the loops that modify what they walk, by whatever name."""
    rows = []
    for function in [node for node in ast.walk(tree) if isinstance(node, ast.FunctionDef)]:
        groups = other_names(function)
        for loop in [node for node in ast.walk(function) if isinstance(node, ast.For)]:
            texts = walked(loop.iter)
            for text in list(texts):
                texts |= groups.get(text, set())
            if texts & modified(loop):
                rows.append(loop.lineno)
    return rows


class LanguageTest(unittest.TestCase):
    def test_no_loop_modifies_what_it_walks(self):
        for path in FILES:
            self.assertEqual(changed_walks(parsed(path)), [], path)

    def test_such_loops_are_found(self):
        head = "def f(rows, box, k):\n    later = rows\n    for row in "
        for told, row in (
            ("rows", "rows.append(1)"), ("rows", "later.append(1)"), ("later", "rows[0] = 1"),
            ("box.rows", "del box.rows[0]"), ("enumerate(rows)", "rows.pop()"), ("rows.items()", "later.update(box)"),
            ("rows if k else box", "box.clear()"), ("zip(box, rows[k])", "rows[k].append(1)"), ("box", "box += [1]"),
        ):
            self.assertEqual(changed_walks(ast.parse(f"{head}{told}:\n        {row}\n")), [3], told)
        for told, row in (("list(rows)", "rows.append(1)"), ("sorted(later)", "rows.pop()"), ("rows", "box.append(1)")):
            self.assertEqual(changed_walks(ast.parse(f"{head}{told}:\n        {row}\n")), [], told)

    def test_there_are_files_and_nothing_else(self):
        names = {path.name for path in PACKAGE.iterdir() if path.name != "__pycache__"}
        self.assertEqual(names, {path.name for path in FILES})
        self.assertIn("__init__.py", names)
        self.assertEqual({name[:-3] for name in names} - {"__init__"} - set(MODULES), set())

    def test_sizes_and_characters(self):
        for path in FILES:
            text = path.read_text()
            lines = text.split("\n")
            self.assertLessEqual(len(lines), 400, path)
            self.assertLessEqual(max(len(line) for line in lines), 120, path)
            self.assertEqual([sign for sign in text if sign != "\n" and not " " <= sign <= "~"], [], path)
            for node in ast.walk(parsed(path)):
                if isinstance(node, ast.FunctionDef):
                    self.assertLessEqual(node.end_lineno - node.lineno + 1, 40, f"{path} {node.name}")

    def test_imports(self):
        for path in FILES:
            tree = parsed(path)
            for node in ast.walk(tree):
                self.assertNotIsInstance(node, ast.Import, path)
                if not isinstance(node, ast.ImportFrom):
                    continue
                self.assertIn(node, tree.body, path)
                self.assertEqual(node.level, 0, path)
                if node.module in LIBRARY:
                    self.assertLessEqual({alias.name for alias in node.names}, LIBRARY[node.module])
                    continue
                package, module = node.module.split(".")
                self.assertEqual(package, "unseenfolds", path)
                self.assertLess(MODULES.index(module), MODULES.index(path.stem), f"{path} {module}")
                defined = {entry.name for entry in parsed(PACKAGE / f"{module}.py").body if hasattr(entry, "name")}
                for entry in parsed(PACKAGE / f"{module}.py").body:
                    if isinstance(entry, ast.Assign):
                        defined.add(entry.targets[0].id)
                for alias in node.names:
                    self.assertIsNone(alias.asname, path)
                    self.assertIn(alias.name, defined, path)

    def test_imports_are_used(self):
        for path in FILES:
            tree = parsed(path)
            used = {node.id for node in ast.walk(tree) if isinstance(node, ast.Name)}
            for node in tree.body:
                if isinstance(node, ast.ImportFrom):
                    self.assertEqual({alias.name for alias in node.names} - used, set(), path)

    def test_statements_and_expressions(self):
        for path in FILES:
            for node in ast.walk(parsed(path)):
                if isinstance(node, ast.stmt):
                    self.assertIsInstance(node, STATEMENTS, f"{path} {getattr(node, 'lineno', 0)}")
                self.assertNotIsInstance(node, BARRED_EXPRESSIONS, f"{path} {getattr(node, 'lineno', 0)}")
                if isinstance(node, ast.BinOp) and isinstance(node.op, ast.Pow):
                    self.assertIsInstance(node.right, ast.Constant, f"{path} {node.lineno}")
                if isinstance(node, ast.Constant):
                    self.assertNotIsInstance(node.value, (float, complex, bytes), f"{path} {node.lineno}")
                    if isinstance(node.value, str):
                        self.assertNotIn("%", node.value, f"{path} {node.lineno}")
                if isinstance(node, ast.Compare):
                    for sign, right in zip(node.ops, node.comparators):
                        if isinstance(sign, (ast.Is, ast.IsNot)):
                            self.assertIsInstance(right, ast.Constant, f"{path} {node.lineno}")

    def test_names(self):
        for path in FILES:
            tree = parsed(path)
            names = own_names(tree)
            self.assertEqual(names & BARRED_NAMES, set(), path)
            self.assertEqual(names & set(dir(builtins)), set(), path)
            for name in names - SPECIAL_METHODS:
                self.assertRegex(name, r"\A(_|_?[A-Za-z][A-Za-z0-9_]*)\Z", path)
            for node in ast.walk(tree):
                if isinstance(node, ast.Name) and isinstance(node.ctx, ast.Load):
                    self.assertNotEqual(node.id, "_", f"{path} {node.lineno}")
                    self.assertIn(node.id, names | BUILTINS, f"{path} {node.lineno}")

    def test_words(self):
        for path in FILES:
            tree = parsed(path)
            for node in ast.walk(tree):
                if isinstance(node, (ast.Module, ast.FunctionDef, ast.ClassDef)) and ast.get_docstring(node) is not None:
                    node.body[0].value.value = ""
            text = ast.unparse(tree)
            for word in BARRED_WORDS:
                self.assertIsNone(re.search(rf"\b{word}\b", text), f"{path} {word}")
            for word in ("dataclass", "overload", "contextmanager", "_wall", "_WallAttr"):
                self.assertNotIn(word, path.read_text(), path)

    def test_methods(self):
        own = set()
        for path in FILES:
            for node in ast.walk(parsed(path)):
                if isinstance(node, ast.ClassDef):
                    own |= {entry.name for entry in node.body if isinstance(entry, ast.FunctionDef)}
        for path in FILES:
            for node in ast.walk(parsed(path)):
                if isinstance(node, ast.Call) and isinstance(node.func, ast.Attribute):
                    self.assertIn(node.func.attr, own | METHODS, f"{path} {node.lineno}")

    def test_decorators_and_special_methods(self):
        for path in FILES:
            for node in ast.walk(parsed(path)):
                if isinstance(node, ast.ClassDef):
                    self.assertEqual(node.decorator_list, [], path)
                    names = [entry.name for entry in node.body if isinstance(entry, ast.FunctionDef)]
                    self.assertEqual(len(names), len(set(names)), f"{path} {node.name}")
                if isinstance(node, ast.FunctionDef):
                    for entry in node.decorator_list:
                        self.assertIn(ast.unparse(entry), ("property", "staticmethod", "classmethod"), path)
                    self.assertIsNone(node.returns, path)
                    if node.name.startswith("__"):
                        self.assertIn(node.name, SPECIAL_METHODS, path)
                if isinstance(node, ast.arg):
                    self.assertIsNone(node.annotation, path)

    def test_names_of_methods_properties_and_attributes_differ(self):
        methods, properties, attributes = set(), set(), set()
        for path in FILES:
            for node in ast.walk(parsed(path)):
                if isinstance(node, ast.ClassDef):
                    for entry in node.body:
                        if isinstance(entry, ast.FunctionDef):
                            told = [ast.unparse(over) for over in entry.decorator_list]
                            (properties if "property" in told else methods).add(entry.name)
                if isinstance(node, ast.Attribute) and isinstance(node.ctx, ast.Store):
                    attributes.add(node.attr)
        self.assertEqual([methods & properties, methods & attributes, properties & attributes], [set()] * 3)
        builtin_names = {name for made in (str, int, list, dict, set, bytes, tuple) for name in dir(made)}
        self.assertEqual((methods | properties) & builtin_names - SPECIAL_METHODS, set())

    def test_stars_stand_before_names(self):
        for path in FILES:
            for node in ast.walk(parsed(path)):
                if isinstance(node, ast.Call):
                    for entry in node.args:
                        if isinstance(entry, ast.Starred):
                            self.assertIsInstance(entry.value, ast.Name, f"{path} {node.lineno}")
                    self.assertTrue(all(entry.arg is not None for entry in node.keywords), f"{path} {node.lineno}")

    def test_generators(self):
        names, functions, uses = set(), [], []
        for path in FILES:
            for node in ast.walk(parsed(path)):
                if isinstance(node, ast.FunctionDef):
                    functions.append(node.name)
                    if any(isinstance(entry, (ast.Yield, ast.YieldFrom)) for entry in ast.walk(node)):
                        names.add(node.name)
        for path in FILES:
            for node in ast.walk(parsed(path)):
                for entry in ast.iter_child_nodes(node):
                    called = entry.func if isinstance(entry, ast.Call) else None
                    name = called.attr if isinstance(called, ast.Attribute) else getattr(called, "id", None)
                    if name in names:
                        uses.append(name)
                        walks = isinstance(node, (ast.For, ast.comprehension)) and node.iter is entry
                        wraps = isinstance(node, ast.Call) and ast.unparse(node.func) in ("list", "tuple", "enumerate")
                        self.assertTrue(walks or wraps, f"{path} {entry.lineno}")
        self.assertEqual([functions.count(name) for name in names], [1] * len(names))
        self.assertEqual(names, {"stages", "steps", "differing", "play"})
        self.assertTrue(uses)

    def test_ends_of_with_blocks(self):
        for path in FILES:
            for node in ast.walk(parsed(path)):
                if isinstance(node, ast.FunctionDef) and node.name == "__exit__":
                    for row in node.body:
                        self.assertIsInstance(row, ast.Assign, path)
                        self.assertIsInstance(row.targets[0], ast.Attribute, path)
                        self.assertIsInstance(row.value, (ast.Attribute, ast.Name), path)

    def test_each_name_is_bound_once_in_a_module(self):
        for path in FILES:
            names = []
            for node in parsed(path).body:
                if isinstance(node, ast.ImportFrom):
                    names += [alias.name for alias in node.names]
                elif isinstance(node, (ast.FunctionDef, ast.ClassDef)):
                    names.append(node.name)
                elif isinstance(node, ast.Assign):
                    names.append(node.targets[0].id)
                else:
                    self.assertIsInstance(node, ast.Expr, path)
            self.assertEqual(len(names), len(set(names)), path)

    def test_no_local_name_is_that_of_an_import_or_a_class(self):
        for path in FILES:
            tree = parsed(path)
            outer = {alias.name for node in tree.body if isinstance(node, ast.ImportFrom) for alias in node.names}
            outer |= {node.name for node in tree.body if isinstance(node, ast.ClassDef)}
            for node in ast.walk(tree):
                if isinstance(node, ast.arg):
                    self.assertNotIn(node.arg, outer, path)
                if isinstance(node, ast.Name) and isinstance(node.ctx, ast.Store):
                    self.assertNotIn(node.id, outer, path)


if __name__ == "__main__":
    unittest.main()
