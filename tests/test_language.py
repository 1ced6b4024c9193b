"""Point 2, and the rules of the language that can be seen in the text of a file."""

import ast
import builtins
import os
import re
import tokenize
import unittest

FOLDER = os.path.join(os.path.dirname(os.path.dirname(os.path.abspath(__file__))), "vaultbridge")

BUILTINS = set(
    "len range enumerate zip min max sum abs sorted reversed int str bool list tuple dict set isinstance ord repr "
    "any all divmod getattr hasattr setattr Exception ValueError TypeError KeyError IndexError LookupError "
    "ZeroDivisionError NotImplementedError iter next object".split())

METHODS = set(
    "append clear copy count endswith extend find get index insert isalnum isalpha isdigit islower isspace isupper "
    "items join keys ljust lower lstrip partition pop remove replace reverse rfind rjust rpartition rsplit rstrip "
    "setdefault split splitlines startswith strip update upper values zfill bit_length sort".split())

BARRED_NAMES = set(
    "register mro elements open input law version_info with_traceback add_note breakpoint compile dir eval exec exit "
    "gc globals help id locals os quit super type vars sys".split())

BARRED_WORDS = set(
    "type typing typing_extensions enum Enum IntEnum StrEnum Flag IntFlag Generic Protocol ABC ABCMeta namedtuple "
    "NamedTuple TypedDict TYPE_CHECKING abstractmethod".split())

BARRED_STARTS = (
    "_wall", "_pe_", "_dcw_", "_enum_", "_cm_", "_twin_re_", "_lay_", "_law_", "_stub_", "_sre", "_WallAttr", "_cold",
    "_tuplegetter", "_outside", "_record", "_written_out", "_member_names")

STATEMENTS = (
    ast.FunctionDef, ast.ClassDef, ast.Return, ast.Delete, ast.Assign, ast.AugAssign, ast.For, ast.While, ast.If,
    ast.Raise, ast.Try, ast.Assert, ast.ImportFrom, ast.Expr, ast.Pass, ast.Break, ast.Continue)

BARRED_EXPRESSIONS = (ast.Await, ast.Div, ast.Yield, ast.YieldFrom, ast.NamedExpr)


def files():
    return sorted(name for name in os.listdir(FOLDER) if name != "__pycache__")


def text_of(name):
    with open(os.path.join(FOLDER, name), encoding="ascii") as held:
        return held.read()


def functions(tree):
    return [node for node in ast.walk(tree) if isinstance(node, ast.FunctionDef)]


def bound_names(tree):
    """All names that the file gives to something, but attributes and methods."""
    methods = {item for node in ast.walk(tree) if isinstance(node, ast.ClassDef) for item in node.body}
    for node in ast.walk(tree):
        if isinstance(node, ast.Name) and isinstance(node.ctx, ast.Store):
            yield node.id
        if isinstance(node, ast.arg):
            yield node.arg
        if isinstance(node, (ast.FunctionDef, ast.ClassDef)) and node not in methods:
            yield node.name
        if isinstance(node, ast.ExceptHandler) and node.name:
            yield node.name
        if isinstance(node, ast.alias):
            yield node.name


def module_level_names(tree):
    for node in tree.body:
        if isinstance(node, (ast.FunctionDef, ast.ClassDef)):
            yield node.name
        if isinstance(node, ast.Assign):
            yield node.targets[0].id
        if isinstance(node, ast.ImportFrom):
            yield from (alias.name for alias in node.names)


class LanguageTest(unittest.TestCase):

    def setUp(self):
        self.trees = {name: ast.parse(text_of(name)) for name in files()}

    def nodes(self):
        for name, tree in self.trees.items():
            for node in ast.walk(tree):
                yield f"{name}:{getattr(node, 'lineno', 0)}", node

    def test_the_folder_has_nothing_but_plain_files(self):
        self.assertIn("__init__.py", files())
        for name in files():
            self.assertRegex(name, r"^(__init__|[a-z][a-z0-9_]*)\.py$")

    def test_characters_and_sizes(self):
        for name in files():
            text = text_of(name)
            self.assertTrue(all(char == "\n" or " " <= char <= "~" for char in text), name)
            lines = text.split("\n")
            self.assertLessEqual(len(lines), 400, name)
            self.assertLessEqual(max(len(line) for line in lines), 120, name)
            for node in functions(self.trees[name]):
                self.assertLessEqual(node.end_lineno - node.lineno + 1, 40, f"{name} {node.name}")

    def test_only_the_package_is_imported(self):
        for place, node in self.nodes():
            self.assertNotIsInstance(node, ast.Import, place)
            if isinstance(node, ast.ImportFrom):
                self.assertRegex(node.module, r"^vaultbridge\.[a-z]+$", place)
                self.assertEqual(node.level, 0, place)
                self.assertTrue(all(alias.asname is None and alias.name != "*" for alias in node.names), place)

    def test_a_name_is_imported_from_the_file_that_defines_it(self):
        for place, node in self.nodes():
            if isinstance(node, ast.ImportFrom):
                source = self.trees[node.module.split(".")[1] + ".py"]
                made = [name for item in source.body if not isinstance(item, ast.ImportFrom)
                        for name in module_level_names(ast.Module([item], []))]
                for alias in node.names:
                    self.assertIn(alias.name, made, place)

    def test_no_two_files_import_from_each_other(self):
        needs = {name: {node.module.split(".")[1] + ".py" for node in ast.walk(tree)
                        if isinstance(node, ast.ImportFrom)} for name, tree in self.trees.items()}
        while needs:
            free = [name for name in needs if not needs[name] & set(needs)]
            self.assertTrue(free, f"files that import from each other: {sorted(needs)}")
            for name in free:
                del needs[name]

    def test_module_level(self):
        for name, tree in self.trees.items():
            for node in tree.body:
                self.assertIsInstance(node, (ast.Expr, ast.ImportFrom, ast.FunctionDef, ast.ClassDef, ast.Assign), name)
                if isinstance(node, ast.Assign):
                    self.assertTrue(len(node.targets) == 1 and isinstance(node.targets[0], ast.Name), name)
                    for part in ast.walk(node):
                        self.assertNotIsInstance(part, (ast.Call, ast.ListComp, ast.DictComp), name)
            bound = list(module_level_names(tree))
            self.assertEqual(len(bound), len(set(bound)), name)

    def test_statements_and_expressions(self):
        for place, node in self.nodes():
            if isinstance(node, ast.stmt):
                self.assertIsInstance(node, STATEMENTS, place)
            self.assertNotIsInstance(node, BARRED_EXPRESSIONS, place)
            if isinstance(node, (ast.FunctionDef, ast.ClassDef)):
                self.assertEqual(node.decorator_list, [], place)
            if isinstance(node, ast.Constant):
                self.assertNotIsInstance(node.value, (float, complex, bytes), place)
            if isinstance(node, ast.Constant) and isinstance(node.value, str):
                self.assertNotIn(chr(37), node.value, place)
            if isinstance(node, ast.Compare) and any(isinstance(sign, (ast.Is, ast.IsNot)) for sign in node.ops):
                self.assertIn(node.comparators[0].value, (None, True, False), place)

    def test_errors_are_raised_and_caught_by_name(self):
        for place, node in self.nodes():
            if isinstance(node, ast.Raise) and node.exc is not None:
                self.assertTrue(isinstance(node.exc, ast.Call) and isinstance(node.exc.func, ast.Name), place)
            if isinstance(node, ast.ExceptHandler):
                self.assertIsInstance(node.type, ast.Name, place)
                self.assertIn(node.type.id, ("KeyError", "BridgeError"), place)

    def test_names(self):
        for name, tree in self.trees.items():
            imported = {alias.name for node in tree.body if isinstance(node, ast.ImportFrom) for alias in node.names}
            for bound in bound_names(tree):
                self.assertNotIn(bound, dir(builtins), name)
                self.assertNotIn(bound, BARRED_NAMES, name)
                self.assertFalse(bound.startswith(BARRED_STARTS) or bound.startswith("__"), f"{name} {bound}")
            for node in ast.walk(tree):
                if isinstance(node, ast.arg) or isinstance(node, ast.Name) and isinstance(node.ctx, ast.Store):
                    self.assertNotIn(getattr(node, "arg", getattr(node, "id", None)), imported, name)

    def test_classes(self):
        for name, tree in self.trees.items():
            for made in [node for node in ast.walk(tree) if isinstance(node, ast.ClassDef)]:
                methods = [item.name for item in made.body if isinstance(item, ast.FunctionDef)]
                attributes = {node.attr for node in ast.walk(made)
                              if isinstance(node, ast.Attribute) and isinstance(node.ctx, ast.Store)}
                self.assertEqual(len(methods), len(set(methods)), made.name)
                self.assertEqual(attributes & set(methods), set(), made.name)
                self.assertFalse(attributes & BARRED_NAMES or set(methods) & BARRED_NAMES, made.name)
                for word in methods:
                    self.assertTrue(word == "__init__" or not word.startswith("__"), f"{made.name} {word}")
                for word in list(attributes) + methods:
                    self.assertFalse(word.startswith(BARRED_STARTS), f"{made.name} {word}")

    def test_builtins_and_methods(self):
        own = {node.name for tree in self.trees.values() for node in functions(tree)}
        for place, node in self.nodes():
            if isinstance(node, ast.Name) and isinstance(node.ctx, ast.Load) and node.id in dir(builtins):
                self.assertIn(node.id, BUILTINS, place)
            if isinstance(node, ast.Call) and isinstance(node.func, ast.Attribute):
                self.assertIn(node.func.attr, METHODS | own, place)

    def test_sets_are_not_written(self):
        for place, node in self.nodes():
            self.assertNotIsInstance(node, (ast.Set, ast.SetComp), place)
            if isinstance(node, ast.Call) and isinstance(node.func, ast.Name):
                self.assertNotIn(node.func.id, ("set", "frozenset"), place)

    def test_barred_words(self):
        for name in files():
            with open(os.path.join(FOLDER, name), "rb") as held:
                for token in tokenize.tokenize(held.readline):
                    if token.type == tokenize.COMMENT or token.string.startswith('"""'):
                        continue
                    words = set(re.findall(r"[A-Za-z_]+", token.string))
                    self.assertEqual(words & BARRED_WORDS, set(), f"{name}:{token.start[0]}")


if __name__ == "__main__":
    unittest.main()
