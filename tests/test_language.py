"""Those rules of the Python subset that can be seen at a glance, over the files of the package."""

import ast
import builtins
import pathlib
import re
import unittest

PACKAGE = pathlib.Path(__file__).resolve().parent.parent / "sandreckoner"
FILES = sorted(PACKAGE.glob("*.py"))
NODES = (
    ast.AsyncFor, ast.AsyncFunctionDef, ast.AsyncWith, ast.Await, ast.Div, ast.Global, ast.Import, ast.TryStar,
)
BUILTINS = {
    "len", "range", "enumerate", "zip", "min", "max", "sum", "abs", "sorted", "reversed", "int", "str", "bool",
    "list", "tuple", "dict", "set", "isinstance", "ord", "repr", "any", "all", "divmod",
}
METHODS = {
    "append", "clear", "copy", "count", "endswith", "extend", "find", "get", "index", "insert", "isalnum", "isalpha",
    "isdigit", "items", "join", "keys", "pop", "remove", "replace", "reverse", "setdefault", "split", "startswith",
    "strip", "update", "values", "bit_length", "add", "discard", "sort", "islower", "lower", "upper", "partition",
    "swapcase",
}
# Names that attributes do not have.
ATTRIBUTES = {
    "items", "keys", "values", "pop", "update", "append", "clear", "extend", "insert", "remove", "reverse", "setdefault",
    "sort", "args", "encode", "decode", "hex", "fromhex", "format",
}
WORDS = re.compile(
    r"\b(type|typing|enum|Enum|Flag|Generic|Protocol|ABC|namedtuple|register|mro|elements|open|input|law|eval|exec"
    r"|compile|dir|exit|gc|globals|help|id|locals|os|quit|super|vars|sys|chr|_wall\w*)\b"
)


def trees():
    for path in FILES:
        yield path.name, ast.parse(path.read_text())


def bound_in(function):
    """The parameters and the names that are assigned in a function."""
    found = [node.arg for node in ast.walk(function) if isinstance(node, ast.arg)]
    for node in ast.walk(function):
        if isinstance(node, ast.Name) and isinstance(node.ctx, ast.Store):
            found.append(node.id)
    return found


def defined_in(tree):
    """The names of the functions, classes and constants of a file."""
    found = [node.name for node in tree.body if isinstance(node, (ast.FunctionDef, ast.ClassDef))]
    for node in tree.body:
        if isinstance(node, ast.Assign):
            found += [target.id for target in node.targets]
    return found


def imports_of(tree):
    """Pairs of a file of the package and a name that is imported from it."""
    found = []
    for node in tree.body:
        if isinstance(node, ast.ImportFrom):
            found += [(node.module.removeprefix("sandreckoner.") + ".py", part.name) for part in node.names]
    return found


class LanguageTest(unittest.TestCase):
    def test_files(self):
        self.assertTrue(FILES)
        inside = [path for path in PACKAGE.iterdir() if path.name != "__pycache__"]
        self.assertEqual(sorted(inside), FILES)

    def test_sizes_and_characters(self):
        for path in FILES:
            lines = path.read_text().split("\n")
            self.assertLessEqual(len(lines), 399, path.name)
            for line in lines:
                self.assertLessEqual(len(line), 120, f"{path.name}: {line}")
                self.assertTrue(all(" " <= character <= "~" for character in line), f"{path.name}: {line}")

    def test_functions(self):
        for name, tree in trees():
            for node in ast.walk(tree):
                if isinstance(node, ast.FunctionDef):
                    self.assertLessEqual(node.end_lineno - node.lineno + 1, 40, f"{name}: {node.name}")
                    self.assertEqual(node.decorator_list, [], f"{name}: {node.name}")

    def test_imports_and_statements(self):
        for name, tree in trees():
            for node in ast.walk(tree):
                self.assertNotIsInstance(node, NODES, name)
                if isinstance(node, ast.ImportFrom):
                    self.assertTrue(node.module.startswith("sandreckoner."), f"{name}: {node.module}")
                    self.assertTrue(all(part.asname is None and part.name != "*" for part in node.names), name)

    def test_values(self):
        for name, tree in trees():
            for node in ast.walk(tree):
                if isinstance(node, ast.Constant):
                    self.assertNotIsInstance(node.value, (float, complex), name)
                    if isinstance(node.value, str):
                        self.assertNotIn("%", node.value, name)

    def test_calls_of_builtins(self):
        for name, tree in trees():
            own = {node.name for node in ast.walk(tree) if isinstance(node, (ast.FunctionDef, ast.ClassDef))}
            for node in ast.walk(tree):
                if isinstance(node, ast.ImportFrom):
                    own.update(part.name for part in node.names)
            for node in ast.walk(tree):
                if isinstance(node, ast.Call) and isinstance(node.func, ast.Name):
                    self.assertIn(node.func.id, own | BUILTINS, name)

    def test_module_level(self):
        allowed = (ast.ImportFrom, ast.FunctionDef, ast.ClassDef, ast.Assign, ast.Expr)
        for name, tree in trees():
            for node in tree.body:
                self.assertIsInstance(node, allowed, name)
                if isinstance(node, ast.Expr):
                    self.assertIsInstance(node.value, ast.Constant, name)

    def test_each_name_means_one_thing(self):
        for name, tree in trees():
            at_the_top = defined_in(tree) + [imported for _, imported in imports_of(tree)]
            self.assertEqual(len(at_the_top), len(set(at_the_top)), name)
            self.assertFalse(set(at_the_top) & set(dir(builtins)), name)
            outer = {imported for _, imported in imports_of(tree)} | set(dir(builtins))
            for node in ast.walk(tree):
                if isinstance(node, ast.FunctionDef):
                    self.assertFalse(outer & set(bound_in(node)), f"{name}: {node.name}")

    def test_imports_come_from_where_the_name_is_defined(self):
        files = dict(trees())
        needs = {}
        for name, tree in files.items():
            needs[name] = {file for file, _ in imports_of(tree)}
            for file, imported in imports_of(tree):
                self.assertIn(imported, defined_in(files[file]), name)
        while needs:
            free = [name for name in needs if not needs[name] & set(needs)]
            self.assertTrue(free, f"import each other: {sorted(needs)}")
            for name in free:
                del needs[name]

    def test_methods_of_values(self):
        own = {node.name for _, tree in trees() for node in ast.walk(tree) if isinstance(node, ast.FunctionDef)}
        for name, tree in trees():
            for node in ast.walk(tree):
                if isinstance(node, ast.Call) and isinstance(node.func, ast.Attribute):
                    self.assertIn(node.func.attr, own | METHODS, name)
                    self.assertEqual([part.arg for part in node.keywords if node.func.attr in METHODS], [], name)

    def test_attributes(self):
        stored, read, methods = set(), {}, set()
        for name, tree in trees():
            for node in ast.walk(tree):
                if isinstance(node, ast.ClassDef):
                    own = {part.name for part in node.body if isinstance(part, ast.FunctionDef)}
                    attributes = {
                        part.attr for part in ast.walk(node)
                        if isinstance(part, ast.Attribute) and isinstance(part.ctx, ast.Store)
                    }
                    self.assertFalse(own & attributes, f"{name}: {node.name}")
                    methods |= own
                    stored |= attributes
                elif isinstance(node, ast.Attribute) and isinstance(node.ctx, ast.Load):
                    read[node.attr] = name
        self.assertFalse(stored & ATTRIBUTES)
        for attribute, name in read.items():
            self.assertIn(attribute, stored | methods | METHODS, name)

    def test_names_begin_without_underscores(self):
        for name, tree in trees():
            for node in ast.walk(tree):
                if isinstance(node, ast.Attribute):
                    self.assertFalse(node.attr.startswith("_") and node.attr != "__init__", f"{name}: {node.attr}")

    def test_words(self):
        for path in FILES:
            for line in path.read_text().split("\n"):
                if not line.strip().startswith(("#", '"""')):
                    self.assertIsNone(WORDS.search(line.split("#")[0]), f"{path.name}: {line}")

    def test_exponents_and_names(self):
        for name, tree in trees():
            for node in ast.walk(tree):
                if isinstance(node, ast.BinOp) and isinstance(node.op, ast.Pow):
                    self.assertIsInstance(node.right, ast.Constant, name)
                    self.assertTrue(0 <= node.right.value <= 64, name)
                if isinstance(node, (ast.Name, ast.FunctionDef, ast.arg)):
                    word = getattr(node, "id", None) or getattr(node, "name", None) or node.arg
                    self.assertTrue(not word.startswith("__") or word == "__init__", f"{name}: {word}")


if __name__ == "__main__":
    unittest.main()
