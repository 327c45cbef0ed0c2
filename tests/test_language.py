"""Those rules of the language subset that can be seen row by row, for every file of the package."""

import ast
import builtins
import pathlib
import re
import unittest

PACKAGE = pathlib.Path(__file__).resolve().parent.parent / "meanchoice"

BUILTINS = set(
    "len range enumerate zip min max sum abs sorted reversed int str bool bytes list tuple dict set frozenset "
    "isinstance ord repr any all divmod Exception ValueError TypeError KeyError IndexError LookupError "
    "ZeroDivisionError ArithmeticError OverflowError RuntimeError NotImplementedError AttributeError "
    "StopIteration NotImplemented".split()
)

BARRED_NODES = (
    ast.Global, ast.AsyncFunctionDef, ast.AsyncFor, ast.AsyncWith, ast.Await, ast.Import, ast.Div, ast.MatMult,
)

BARRED_WORDS = re.compile(
    r"\b(type|typing|typing_extensions|enum|Enum|IntEnum|StrEnum|Flag|IntFlag|Generic|Protocol|ABC|ABCMeta"
    r"|namedtuple|NamedTuple|TypedDict|TYPE_CHECKING|abstractmethod)\b|dataclass|overload|contextmanager"
)

METHODS = set(
    "append clear copy count endswith extend find get index insert isalnum isalpha isdigit islower isspace isupper "
    "items join keys ljust lower lstrip partition pop remove replace reverse rfind rjust rpartition rsplit rstrip "
    "setdefault split splitlines startswith strip update upper values zfill bit_length".split()
)


def bound_names(tree):
    """Every name that the file gives to something, with the node that does."""
    for node in ast.walk(tree):
        if isinstance(node, ast.Name) and not isinstance(node.ctx, ast.Load):
            yield node.id
        elif isinstance(node, ast.arg):
            yield node.arg
        elif isinstance(node, (ast.FunctionDef, ast.ClassDef)):
            yield node.name


class Language(unittest.TestCase):
    def setUp(self):
        self.texts = {path: path.read_text(encoding="utf-8") for path in PACKAGE.glob("*.py")}
        self.trees = {path: ast.parse(text) for path, text in self.texts.items()}

    def nodes(self, *kinds):
        for path, tree in self.trees.items():
            for node in ast.walk(tree):
                if isinstance(node, kinds):
                    yield path, node

    def test_the_folder_holds_plain_python_files_alone(self):
        self.assertIn(PACKAGE / "__init__.py", self.texts)
        for path in PACKAGE.iterdir():
            if path.name != "__pycache__":
                self.assertRegex(path.name, r"^([a-z][a-z0-9_]*|__init__|__main__)\.py$")

    def test_characters_and_sizes(self):
        for path, text in self.texts.items():
            self.assertIsNone(re.search(r"[^ -~\n]", text), path)
            rows = text.splitlines()
            self.assertLessEqual(len(rows), 400, path)
            self.assertLessEqual(max(map(len, rows)), 120, path)

    def test_functions_are_short(self):
        for path, node in self.nodes(ast.FunctionDef):
            self.assertLessEqual(node.end_lineno - node.lineno + 1, 40, (path, node.name))

    def test_barred_words(self):
        for path, text in self.texts.items():
            self.assertIsNone(BARRED_WORDS.search(text), path)

    def test_barred_statements_and_signs(self):
        for path, node in self.nodes(*BARRED_NODES):
            self.fail((path, node))

    def test_imports_name_the_file_that_defines_the_name(self):
        for path, node in self.nodes(ast.ImportFrom):
            self.assertIn(node, self.trees[path].body)
            self.assertEqual(node.level, 0)
            self.assertRegex(node.module, r"^meanchoice\.[a-z_]+$")
            source = self.trees[PACKAGE / (node.module.split(".")[1] + ".py")]
            defined = {name for top in source.body if not isinstance(top, ast.ImportFrom) for name in bound_names(top)}
            for imported in node.names:
                self.assertIn(imported.name, defined, path)

    def test_builtins(self):
        known = set(dir(builtins))
        for path, node in self.nodes(ast.Name):
            self.assertTrue(node.id not in known or node.id in BUILTINS, (path, node.id))

    def test_names_that_are_bound(self):
        known = set(dir(builtins))
        for path, tree in self.trees.items():
            for name in bound_names(tree):
                self.assertNotIn(name, known, path)
                self.assertFalse(name.startswith("_") and not re.fullmatch(r"__[a-z]+__", name), (path, name))

    def test_no_variable_has_the_name_of_an_import_or_a_class_of_its_file(self):
        for path, tree in self.trees.items():
            taken = {node.name for node in tree.body if isinstance(node, ast.ClassDef)}
            for node in tree.body:
                if isinstance(node, ast.ImportFrom):
                    taken |= {imported.asname or imported.name for imported in node.names}
            for node in ast.walk(tree):
                if isinstance(node, ast.Name) and not isinstance(node.ctx, ast.Load):
                    self.assertNotIn(node.id, taken, path)
                elif isinstance(node, ast.arg):
                    self.assertNotIn(node.arg, taken, path)

    def test_no_file_imports_itself_through_others(self):
        names = {path: {node.module.split(".")[1] for node in tree.body if isinstance(node, ast.ImportFrom)}
                 for path, tree in self.trees.items()}
        left = {path.stem: sources for path, sources in names.items()}
        while left:
            free = [name for name, sources in left.items() if not sources & set(left)]
            self.assertTrue(free, left)
            for name in free:
                del left[name]

    def test_every_import_is_used(self):
        for path, tree in self.trees.items():
            read = {node.id for node in ast.walk(tree) if isinstance(node, ast.Name)}
            for node in tree.body:
                if isinstance(node, ast.ImportFrom):
                    for imported in node.names:
                        self.assertIn(imported.asname or imported.name, read, path)

    def test_powers_have_literal_exponents(self):
        for path, node in self.nodes(ast.BinOp):
            if isinstance(node.op, ast.Pow):
                self.assertIsInstance(node.right, ast.Constant, path)
                self.assertIn(node.right.value, range(65), path)

    def test_values(self):
        for path, node in self.nodes(ast.Constant):
            self.assertNotIsInstance(node.value, (float, complex), path)
            if isinstance(node.value, str):
                self.assertNotIn("%", node.value, path)

    def own_methods(self):
        classes = [node for path, node in self.nodes(ast.ClassDef)]
        return {node.name for one in classes for node in one.body if isinstance(node, ast.FunctionDef)}

    def test_methods_are_own_ones_or_listed(self):
        known = METHODS | self.own_methods()
        for path, node in self.nodes(ast.Call):
            if isinstance(node.func, ast.Attribute):
                self.assertIn(node.func.attr, known, path)

    def test_attributes_are_assigned_and_no_methods(self):
        stored = {node.attr for path, node in self.nodes(ast.Attribute) if isinstance(node.ctx, ast.Store)}
        self.assertEqual(stored & self.own_methods(), set())
        self.assertEqual(stored & METHODS, set())
        for path, node in self.nodes(ast.Attribute):
            self.assertIn(node.attr, stored | METHODS | self.own_methods(), path)

    def test_is_stands_beside_none_and_truths_alone(self):
        for path, node in self.nodes(ast.Compare):
            if any(isinstance(sign, (ast.Is, ast.IsNot)) for sign in node.ops):
                self.assertIn([right.value for right in node.comparators], ([None], [True], [False]), path)

    def test_escapes(self):
        for path, text in self.texts.items():
            self.assertIsNone(re.search(r"\\[^nt\\'\"]", text), path)

    def test_no_name_is_bound_twice_at_module_level(self):
        for path, tree in self.trees.items():
            names = []
            for node in tree.body:
                if isinstance(node, (ast.FunctionDef, ast.ClassDef)):
                    names.append(node.name)
                elif isinstance(node, ast.Assign):
                    names += [target.id for target in node.targets]
                elif isinstance(node, ast.ImportFrom):
                    names += [imported.asname or imported.name for imported in node.names]
            self.assertEqual(len(names), len(set(names)), path)


if __name__ == "__main__":
    unittest.main()
