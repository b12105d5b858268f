"""Those rules of the language subset that can be seen in the files of the package."""

import ast
import pathlib
import re
import unittest

PACKAGE = pathlib.Path(__file__).resolve().parent.parent / "pistonrounds"
BUILTINS = set(
    "len range enumerate zip min max sum abs sorted reversed int str bool bytes list tuple dict set isinstance ord "
    "repr any all divmod ValueError".split()
)
METHODS = set(
    "append clear copy count endswith extend find get index insert isalnum isalpha isdigit items join keys lower "
    "lstrip partition pop remove replace reverse rstrip setdefault split startswith strip update upper values "
    "bit_length".split()
)
BARRED_WORDS = set(
    "type typing typing_extensions enum Enum IntEnum StrEnum Flag IntFlag Generic Protocol ABC ABCMeta namedtuple "
    "NamedTuple TypedDict TYPE_CHECKING abstractmethod".split()
)
BARRED_NAMES = set(
    "register mro elements open input version_info with_traceback add_note breakpoint builtins compile dir eval exec "
    "exit getattr globals hasattr help id license locals os quit setattr super sys vars round map next hash filter "
    "format iter object print property slice float frozenset callable".split()
)
STATEMENTS = (
    ast.FunctionDef, ast.Return, ast.Assign, ast.AugAssign, ast.For, ast.While, ast.If, ast.Raise, ast.Try, ast.Expr,
    ast.Pass, ast.Break, ast.Continue, ast.ImportFrom, ast.ClassDef, ast.Del, ast.Assert,
)


def files():
    return sorted(PACKAGE.glob("*.py"))


def trees():
    return {path.stem: ast.parse(path.read_text("ascii")) for path in files()}


def imports_of(tree):
    return [node for node in ast.walk(tree) if isinstance(node, ast.ImportFrom)]


def own_methods():
    """The names of all methods that the classes of the package define."""
    return {
        part.name for tree in trees().values() for node in tree.body if isinstance(node, ast.ClassDef)
        for part in node.body if isinstance(part, ast.FunctionDef)
    }


def bound_names(tree):
    """All names that a file binds, but for attributes."""
    names = []
    for node in ast.walk(tree):
        if isinstance(node, ast.Name) and isinstance(node.ctx, ast.Store):
            names.append(node.id)
        elif isinstance(node, ast.arg):
            names.append(node.arg)
        elif isinstance(node, (ast.FunctionDef, ast.ClassDef)):
            names.append(node.name)
    return names


class FilesTest(unittest.TestCase):
    def test_the_folder_has_python_files_alone(self):
        found = [path.name for path in PACKAGE.iterdir() if path.name != "__pycache__"]
        for name in found:
            self.assertRegex(name, r"\A[a-z0-9_]+\.py\Z")
        self.assertIn("__init__.py", found)

    def test_characters_and_sizes(self):
        for path in files():
            text = path.read_bytes().decode("ascii")
            self.assertRegex(text, r"\A[\n -~]*\Z", path.name)
            rows = text.split("\n")
            self.assertLessEqual(len(rows), 400, path.name)
            self.assertLessEqual(max(map(len, rows)), 120, path.name)

    def test_functions_have_at_most_40_lines(self):
        for name, tree in trees().items():
            for node in ast.walk(tree):
                if isinstance(node, ast.FunctionDef):
                    self.assertLessEqual(node.end_lineno - node.lineno + 1, 40, (name, node.name))

    def test_barred_words(self):
        for path in files():
            text = path.read_text("ascii")
            self.assertEqual(set(re.findall(r"\w+", text)) & BARRED_WORDS, set(), path.name)
            for word in ("dataclass", "overload", "contextmanager"):
                self.assertNotIn(word, text)


class NamesTest(unittest.TestCase):
    def test_imports_are_of_the_package_and_of_what_is_defined_there(self):
        all_trees = trees()
        for name, tree in all_trees.items():
            for node in imports_of(tree):
                package, _, module = node.module.partition(".")
                self.assertEqual((package, node.level), ("pistonrounds", 0), name)
                defined = [part.name for part in all_trees[module].body if hasattr(part, "name")]
                for part in all_trees[module].body:
                    if isinstance(part, ast.Assign):
                        defined.extend(target.id for target in part.targets)
                for alias in node.names:
                    self.assertIsNone(alias.asname)
                    self.assertIn(alias.name, defined, name)

    def test_every_import_is_used(self):
        for name, tree in trees().items():
            used = {node.id for node in ast.walk(tree) if isinstance(node, ast.Name)}
            for node in imports_of(tree):
                for alias in node.names:
                    self.assertIn(alias.name, used, name)

    def test_no_two_files_import_from_each_other(self):
        leads = {
            name: {node.module.partition(".")[2] for node in imports_of(tree)} for name, tree in trees().items()
        }
        while leads:
            free = [name for name, others in leads.items() if not others & set(leads)]
            self.assertTrue(free, leads)
            for name in free:
                del leads[name]

    def test_names_are_plain_and_free(self):
        for name, tree in trees().items():
            bound = bound_names(tree)
            imported = {alias.name for node in imports_of(tree) for alias in node.names}
            for word in bound:
                self.assertTrue(word == "__init__" or not word.startswith("_"), (name, word))
                self.assertNotIn(word, BUILTINS | BARRED_NAMES | imported, name)

    def test_module_level_names_are_bound_once(self):
        for name, tree in trees().items():
            bound = [alias.name for node in imports_of(tree) for alias in node.names]
            for node in tree.body:
                if isinstance(node, (ast.FunctionDef, ast.ClassDef)):
                    bound.append(node.name)
                elif isinstance(node, ast.Assign):
                    bound.extend(target.id for target in node.targets)
            self.assertEqual(len(bound), len(set(bound)), name)
            for node in ast.walk(tree):
                if isinstance(node, ast.FunctionDef):
                    inside = {part.id for part in ast.walk(node)
                              if isinstance(part, ast.Name) and isinstance(part.ctx, ast.Store)}
                    inside |= {part.arg for part in ast.walk(node) if isinstance(part, ast.arg)}
                    self.assertEqual(inside & set(bound), set(), (name, node.name))

    def test_names_that_are_read_are_bound_or_builtins(self):
        for name, tree in trees().items():
            known = set(bound_names(tree)) | BUILTINS
            known |= {alias.name for node in imports_of(tree) for alias in node.names}
            for node in ast.walk(tree):
                if isinstance(node, ast.Name):
                    self.assertIn(node.id, known, (name, node.lineno))


class StatementsTest(unittest.TestCase):
    def test_module_level(self):
        for name, tree in trees().items():
            for at, node in enumerate(tree.body):
                if at == 0:
                    self.assertIsNotNone(ast.get_docstring(tree), name)
                else:
                    self.assertIsInstance(node, (ast.ImportFrom, ast.FunctionDef, ast.ClassDef, ast.Assign), name)
                    if isinstance(node, ast.Assign):
                        self.check_plain(node.value, [part.name for part in tree.body[:at] if hasattr(part, "name")])

    def check_plain(self, value, functions):
        """A plain value, or a dict of such and of functions that are defined above."""
        parts = value.keys + value.values if isinstance(value, ast.Dict) else [value]
        for part in parts:
            if isinstance(part, ast.Name):
                self.assertIn(part.id, functions)
            else:
                ast.literal_eval(part)

    def test_statements_and_expressions(self):
        barred = (
            ast.Set, ast.SetComp, ast.Lambda, ast.Yield, ast.YieldFrom, ast.Await, ast.Div, ast.Pow, ast.NamedExpr,
            ast.Global, ast.Import,
        )
        for name, tree in trees().items():
            for node in ast.walk(tree):
                self.assertNotIsInstance(node, barred, (name, getattr(node, "lineno", 0)))
                if isinstance(node, ast.stmt):
                    self.assertIsInstance(node, STATEMENTS, (name, node.lineno))
                if isinstance(node, ast.FunctionDef):
                    self.assertEqual(node.decorator_list, [], (name, node.name))
                if isinstance(node, ast.Constant):
                    self.assertNotIsInstance(node.value, (float, complex), (name, node.lineno))
                    if isinstance(node.value, str):
                        self.assertNotIn("%", node.value, (name, node.lineno))

    def test_is_stands_beside_none_true_and_false_alone(self):
        for name, tree in trees().items():
            for node in ast.walk(tree):
                if isinstance(node, ast.Compare):
                    for sign, right in zip(node.ops, node.comparators):
                        if isinstance(sign, (ast.Is, ast.IsNot)):
                            self.assertIsInstance(right, ast.Constant, (name, node.lineno))

    def test_methods_are_own_ones_or_of_builtin_values(self):
        own = own_methods()
        self.assertEqual(own & METHODS, set())
        for name, tree in trees().items():
            for node in ast.walk(tree):
                if isinstance(node, ast.Call) and isinstance(node.func, ast.Attribute):
                    self.assertIn(node.func.attr, METHODS | own, (name, node.lineno))

    def test_errors_are_own_ones_made_on_the_spot(self):
        own = {node.name for node in trees()["errors"].body if isinstance(node, ast.ClassDef)}
        for name, tree in trees().items():
            for node in ast.walk(tree):
                if isinstance(node, ast.Raise):
                    self.assertIsInstance(node.exc, ast.Call, (name, node.lineno))
                    self.assertIn(node.exc.func.id, own, (name, node.lineno))
                if isinstance(node, ast.ExceptHandler):
                    kinds = node.type.elts if isinstance(node.type, ast.Tuple) else [node.type]
                    for kind in kinds:
                        self.assertIn(kind.id, own, (name, node.lineno))


if __name__ == "__main__":
    unittest.main()
