"""Holds the package against the rules of LANGUAGE.md that can be read off the code."""

import ast
import builtins
import pathlib
import re
import unittest

FOLDER = pathlib.Path(__file__).resolve().parent.parent / "onefolk"

NODES = set("""
    Module Expr Constant ImportFrom alias FunctionDef arguments arg Return ClassDef Assign AugAssign Name Load Store Del
    If While For Break Continue Pass Raise Try ExceptHandler Assert Delete Call keyword Attribute Subscript Slice Starred
    Tuple List Dict Set ListComp DictComp SetComp comprehension Lambda IfExp BoolOp And Or UnaryOp Not USub Invert
    BinOp Add Sub Mult FloorDiv Mod Pow BitAnd BitOr BitXor LShift RShift JoinedStr FormattedValue
    Compare Eq NotEq Lt LtE Gt GtE In NotIn Is IsNot
""".split())

BUILTINS = set("""
    len range enumerate zip min max sum abs sorted reversed int str bool bytes list tuple dict set isinstance ord repr
    any all divmod Exception ValueError TypeError KeyError IndexError LookupError ZeroDivisionError ArithmeticError
    OverflowError RuntimeError NotImplementedError
""".split())

METHODS = set("""
    append clear copy count endswith extend find get index insert isalnum isalpha isdigit islower isspace isupper items
    join keys ljust lower lstrip partition pop remove replace reverse rfind rjust rpartition rsplit rstrip setdefault
    split splitlines startswith strip update upper values zfill bit_length sort add discard
""".split())

WORDS = set("""
    type typing typing_extensions enum Enum IntEnum StrEnum Flag IntFlag Generic Protocol ABC ABCMeta namedtuple
    NamedTuple TypedDict TYPE_CHECKING abstractmethod register mro elements open input version_info with_traceback
    add_note eval exec getattr setattr hasattr globals locals vars dir id sys os
""".split())

DOUBLE = ("__init__", "__eq__", "__repr__", "__str__", "__len__")


def files():
    return sorted(FOLDER.glob("*.py"))


def trees():
    return [(path.stem, ast.parse(path.read_text(encoding="utf-8"))) for path in files()]


def defined(tree):
    names = []
    for node in tree.body:
        if isinstance(node, (ast.FunctionDef, ast.ClassDef)):
            names.append(node.name)
        elif isinstance(node, ast.Assign):
            names.extend(target.id for target in node.targets)
    return names


def imported(tree):
    return [(node.module.split(".")[1], name.name) for node in tree.body if isinstance(node, ast.ImportFrom)
            for name in node.names]


def bound_within(tree):
    """All names that functions bind: parameters, targets, caught errors."""
    names = set()
    for node in ast.walk(tree):
        if isinstance(node, ast.arg):
            names.add(node.arg)
        elif isinstance(node, ast.Name) and isinstance(node.ctx, ast.Store):
            names.add(node.id)
        elif isinstance(node, ast.ExceptHandler) and node.name:
            names.add(node.name)
    return names - set(defined(tree))


def own_methods(tree):
    return [inner.name for node in tree.body if isinstance(node, ast.ClassDef)
            for inner in node.body if isinstance(inner, ast.FunctionDef)]


def own_attributes(tree):
    return [node.attr for node in ast.walk(tree) if isinstance(node, ast.Attribute) and isinstance(node.ctx, ast.Store)]


class FilesTest(unittest.TestCase):
    def test_the_folder_has_only_plain_files(self):
        for path in FOLDER.iterdir():
            if path.name != "__pycache__":
                self.assertRegex(path.name, r"^([a-z][a-z0-9_]*|__init__|__main__)\.py$")
        self.assertTrue((FOLDER / "__init__.py").exists())

    def test_signs_and_sizes(self):
        for path in files():
            text = path.read_text(encoding="utf-8")
            lines = text.split("\n")
            self.assertLessEqual(len(lines), 400, path.name)
            for at, line in enumerate(lines, start=1):
                self.assertLessEqual(len(line), 120, (path.name, at))
                self.assertTrue(all(" " <= sign <= "~" for sign in line), (path.name, at))

    def test_words_that_do_not_occur(self):
        for path in files():
            found = set(re.findall(r"\w+", path.read_text(encoding="utf-8"))) & WORDS
            self.assertEqual(found, set(), path.name)


class CodeTest(unittest.TestCase):
    def test_nodes(self):
        for stem, tree in trees():
            for node in ast.walk(tree):
                word = node.__class__.__name__
                self.assertIn(word, NODES, (stem, getattr(node, "lineno", 0)))

    def test_functions_are_short_and_plain(self):
        for stem, tree in trees():
            for node in ast.walk(tree):
                if isinstance(node, ast.FunctionDef):
                    self.assertLessEqual(node.end_lineno - node.lineno + 1, 40, (stem, node.name))
                    self.assertEqual(node.decorator_list, [], (stem, node.name))
                    self.assertIsNone(node.args.vararg, (stem, node.name))
                    self.assertIsNone(node.args.kwarg, (stem, node.name))
                if isinstance(node, (ast.For, ast.While)):
                    self.assertEqual(node.orelse, [], (stem, node.lineno))

    def test_classes(self):
        for stem, tree in trees():
            for node in ast.walk(tree):
                if isinstance(node, ast.ClassDef):
                    self.assertLessEqual(len(node.bases), 1, (stem, node.name))
                    for inner in node.body:
                        is_docstring = isinstance(inner, ast.Expr) and isinstance(inner.value, ast.Constant)
                        self.assertTrue(is_docstring or isinstance(inner, ast.FunctionDef), (stem, node.name))

    def test_names_are_plain(self):
        for stem, tree in trees():
            names = list(bound_within(tree)) + defined(tree)
            names += [node.name for node in ast.walk(tree) if isinstance(node, ast.FunctionDef)]
            for name in names:
                self.assertTrue(name in DOUBLE or re.match(r"^[A-Za-z][A-Za-z0-9_]*$", name), (stem, name))

    def test_builtins(self):
        for stem, tree in trees():
            own = bound_within(tree) | set(defined(tree)) | {name for module, name in imported(tree)}
            self.assertEqual({name for name in own if hasattr(builtins, name)}, set(), stem)
            for node in ast.walk(tree):
                if isinstance(node, ast.Name) and isinstance(node.ctx, ast.Load) and node.id not in own:
                    self.assertIn(node.id, BUILTINS, (stem, node.lineno))

    def test_one_meaning_for_each_name(self):
        for stem, tree in trees():
            outer = defined(tree) + [name for module, name in imported(tree)]
            self.assertEqual(len(outer), len(set(outer)), stem)
            self.assertEqual(bound_within(tree) & set(outer), set(), stem)

    def test_methods_and_attributes(self):
        methods = {name for stem, tree in trees() for name in own_methods(tree)}
        attributes = {name for stem, tree in trees() for name in own_attributes(tree)}
        self.assertEqual(methods & attributes, set())
        for name in (methods | attributes) - set(DOUBLE):
            self.assertFalse(any(hasattr(thing, name) for thing in ("", b"", 0, [], {}, set())), name)
        for stem, tree in trees():
            for node in ast.walk(tree):
                if isinstance(node, ast.Call) and isinstance(node.func, ast.Attribute):
                    self.assertIn(node.func.attr, METHODS | methods, (stem, node.lineno))
                elif isinstance(node, ast.Attribute):
                    self.assertIn(node.attr, METHODS | methods | attributes, (stem, node.lineno))

    def test_is_stands_with_none_and_truths(self):
        for stem, tree in trees():
            for node in ast.walk(tree):
                if isinstance(node, ast.Compare):
                    for sign, right in zip(node.ops, node.comparators):
                        if isinstance(sign, (ast.Is, ast.IsNot)):
                            self.assertIn(getattr(right, "value", "?"), (None, True, False), (stem, node.lineno))

    def test_strings(self):
        for stem, tree in trees():
            for node in ast.walk(tree):
                if isinstance(node, ast.Constant):
                    self.assertNotIsInstance(node.value, (float, complex), (stem, node.lineno))
                    if isinstance(node.value, str):
                        self.assertNotIn("%", node.value, (stem, node.lineno))
                if isinstance(node, ast.FormattedValue):
                    self.assertIsNone(node.format_spec, (stem, node.lineno))


class ImportsTest(unittest.TestCase):
    def test_each_names_the_file_that_defines(self):
        names = {stem: defined(tree) for stem, tree in trees()}
        for stem, tree in trees():
            for node in ast.walk(tree):
                if isinstance(node, ast.ImportFrom):
                    self.assertEqual(node.level, 0, stem)
                    self.assertRegex(node.module, r"^onefolk\.[a-z]+$", stem)
                    self.assertTrue(all(name.asname is None for name in node.names), stem)
            for module, name in imported(tree):
                self.assertIn(name, names[module], stem)

    def test_every_import_is_used(self):
        for stem, tree in trees():
            used = {node.id for node in ast.walk(tree) if isinstance(node, ast.Name)}
            for module, name in imported(tree):
                self.assertIn(name, used, stem)

    def test_no_ring_of_imports(self):
        wants = {stem: {module for module, name in imported(tree)} for stem, tree in trees()}
        while wants:
            ready = [stem for stem in wants if not wants[stem] & set(wants)]
            self.assertNotEqual(ready, [], wants)
            for stem in ready:
                del wants[stem]


if __name__ == "__main__":
    unittest.main()
