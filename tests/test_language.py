"""What can be seen of the rules of LANGUAGE.md by reading the package; mostly narrower than they are."""

import ast
import builtins
import pathlib
import re
import unittest

PACKAGE = pathlib.Path(__file__).resolve().parent.parent / "foldkeep"

BUILTINS = """len range enumerate zip min max sum abs sorted reversed int str bool list tuple dict set isinstance
ord repr any all divmod Exception ValueError TypeError KeyError IndexError LookupError ZeroDivisionError""".split()

METHODS = """append clear copy count endswith extend find get index insert isalnum isalpha isdigit islower isspace
isupper items join keys ljust lower lstrip partition pop remove replace reverse rfind rjust rpartition rsplit rstrip
setdefault split splitlines startswith strip update upper values zfill add discard""".split()

NOT_FOR_ATTRIBUTES = """items keys values pop update append clear extend insert remove reverse setdefault sort args
encode decode hex fromhex format format_map mro register elements open input law version_info with_traceback
add_note real imag numerator denominator conjugate bit_count to_bytes from_bytes is_integer""".split()

NOT_FOR_NAMES = """register mro elements open input law version_info with_traceback add_note attrgetter breakpoint
builtins compile copyright credits delattr dir eval exec exit gc globals help id importlib license locals
methodcaller os quit super type vars sys""".split()

NOT_AS_WORDS = """type typing typing_extensions enum Enum IntEnum StrEnum Flag IntFlag Generic Protocol ABC ABCMeta
namedtuple NamedTuple TypedDict TYPE_CHECKING abstractmethod _wall _WallAttr""".split()

NODES = (
    ast.Module, ast.ImportFrom, ast.alias, ast.FunctionDef, ast.ClassDef, ast.arguments, ast.arg, ast.Return,
    ast.Assign, ast.AugAssign, ast.For, ast.While, ast.If, ast.Raise, ast.Try, ast.ExceptHandler, ast.Expr, ast.Pass,
    ast.Break, ast.Continue, ast.Delete, ast.BoolOp, ast.BinOp, ast.UnaryOp, ast.Lambda, ast.IfExp, ast.Dict,
    ast.ListComp, ast.DictComp, ast.comprehension, ast.Compare, ast.Call, ast.keyword, ast.FormattedValue,
    ast.JoinedStr, ast.Constant, ast.Attribute, ast.Subscript, ast.Starred, ast.Name, ast.List, ast.Tuple, ast.Slice,
    ast.expr_context, ast.boolop, ast.operator, ast.unaryop, ast.cmpop,
)


def files():
    return sorted(PACKAGE.glob("*.py"))


def tree_of(file):
    return ast.parse(file.read_text(encoding="utf-8"))


def trees():
    return [(file, tree_of(file)) for file in files()]


def places_of_strings(tree):
    """The strings of the code, without docstrings."""
    docs = []
    for node in ast.walk(tree):
        if isinstance(node, (ast.Module, ast.ClassDef, ast.FunctionDef)):
            first = node.body[0] if node.body else None
            if isinstance(first, ast.Expr) and isinstance(first.value, ast.Constant):
                docs.append(first.value)
    return [node for node in ast.walk(tree) if isinstance(node, ast.Constant) and node not in docs]


def bound_names(function):
    """The parameters and the local variables of a function, also of what is nested in it."""
    names = []
    for node in ast.walk(function):
        if isinstance(node, ast.arg):
            names.append(node.arg)
        if isinstance(node, ast.Name) and not isinstance(node.ctx, ast.Load):
            names.append(node.id)
        if isinstance(node, ast.FunctionDef) and node is not function:
            names.append(node.name)
        if isinstance(node, ast.ExceptHandler) and node.name:
            names.append(node.name)
    return names


def module_names(tree):
    names = []
    for node in tree.body:
        if isinstance(node, ast.ImportFrom):
            names.extend(alias.asname or alias.name for alias in node.names)
        if isinstance(node, (ast.FunctionDef, ast.ClassDef)):
            names.append(node.name)
        if isinstance(node, ast.Assign):
            names.append(node.targets[0].id)
    return names


class Language(unittest.TestCase):
    def test_the_folder_holds_plain_files_only(self):
        for file in PACKAGE.iterdir():
            if file.name != "__pycache__":
                self.assertTrue(re.fullmatch(r"[a-z_0-9]+\.py", file.name), file.name)
        self.assertTrue((PACKAGE / "__init__.py").exists())

    def test_sizes_and_characters(self):
        for file, tree in trees():
            with self.subTest(file=file.name):
                text = file.read_text(encoding="utf-8")
                self.assertLessEqual(len(text.splitlines()), 399)
                self.assertTrue(all(sign == "\n" or " " <= sign <= "~" for sign in text))
                self.assertTrue(all(len(line) <= 120 for line in text.splitlines()))
                for node in ast.walk(tree):
                    if isinstance(node, ast.FunctionDef):
                        self.assertLessEqual(node.end_lineno - node.lineno + 1, 40, node.name)

    def test_only_plain_constructs(self):
        for file, tree in trees():
            with self.subTest(file=file.name):
                for node in ast.walk(tree):
                    self.assertIsInstance(node, NODES, getattr(node, "lineno", ""))
                    if isinstance(node, ast.Constant):
                        self.assertNotIsInstance(node.value, (float, complex, bytes))
                    if isinstance(node, ast.BinOp):
                        self.assertNotIsInstance(node.op, (ast.Div, ast.MatMult, ast.Pow))
                    if isinstance(node, (ast.FunctionDef, ast.ClassDef)):
                        self.assertEqual(node.decorator_list, [])
                    if isinstance(node, ast.FunctionDef):
                        self.assertIsNone(node.returns)
                    if isinstance(node, ast.arg):
                        self.assertIsNone(node.annotation)

    def test_module_level(self):
        for file, tree in trees():
            with self.subTest(file=file.name):
                imports_are_over = False
                for at, node in enumerate(tree.body):
                    if at == 0 and isinstance(node, ast.Expr) and isinstance(node.value, ast.Constant):
                        continue
                    self.assertIsInstance(node, (ast.ImportFrom, ast.FunctionDef, ast.ClassDef, ast.Assign))
                    if isinstance(node, ast.ImportFrom):
                        self.assertFalse(imports_are_over)
                    else:
                        imports_are_over = True
                    if isinstance(node, ast.Assign):
                        self.assertEqual(len(node.targets), 1)
                        self.assertIsInstance(node.targets[0], ast.Name)
                names = module_names(tree)
                self.assertEqual(len(names), len(set(names)), "bound once")

    def test_imports_name_the_file_that_defines(self):
        defined = {}
        for file in files():
            tree = tree_of(file)
            defined["foldkeep." + file.stem] = [
                node.name if hasattr(node, "name") else node.targets[0].id
                for node in tree.body if isinstance(node, (ast.FunctionDef, ast.ClassDef, ast.Assign))]
        for file, tree in trees():
            with self.subTest(file=file.name):
                for node in ast.walk(tree):
                    if isinstance(node, ast.ImportFrom):
                        self.assertEqual(node.level, 0)
                        for alias in node.names:
                            self.assertIsNone(alias.asname)
                            self.assertIn(alias.name, defined[node.module])

    def test_imports_go_in_no_circle(self):
        wants = {}
        for file in files():
            tree = tree_of(file)
            wants["foldkeep." + file.stem] = [n.module for n in tree.body if isinstance(n, ast.ImportFrom)]
        done = []
        while len(done) < len(wants):
            ready = [name for name in wants if name not in done and all(one in done for one in wants[name])]
            self.assertNotEqual(ready, [], "a circle")
            done.extend(ready)

    def test_every_import_is_used(self):
        for file, tree in trees():
            with self.subTest(file=file.name):
                used = [node.id for node in ast.walk(tree) if isinstance(node, ast.Name)]
                for node in tree.body:
                    if isinstance(node, ast.ImportFrom):
                        for alias in node.names:
                            self.assertIn(alias.name, used)

    def test_names(self):
        for file, tree in trees():
            with self.subTest(file=file.name):
                for name in module_names(tree):
                    self.check_name(name)
                closed = [node.name for node in tree.body if isinstance(node, ast.ClassDef)]
                for node in tree.body:
                    if isinstance(node, ast.ImportFrom):
                        closed.extend(alias.name for alias in node.names)
                for node in ast.walk(tree):
                    if isinstance(node, ast.FunctionDef):
                        for name in bound_names(node):
                            self.check_name(name)
                            self.assertNotIn(name, closed)

    def check_name(self, name):
        self.assertTrue(re.fullmatch(r"_|_?[A-Za-z][A-Za-z0-9_]*", name), name)
        self.assertNotIn(name, dir(builtins))
        self.assertNotIn(name, NOT_FOR_NAMES)

    def test_the_lone_underscore_is_never_read(self):
        for file, tree in trees():
            with self.subTest(file=file.name):
                for node in ast.walk(tree):
                    if isinstance(node, ast.Name) and node.id == "_":
                        self.assertNotIsInstance(node.ctx, ast.Load)

    def test_builtins(self):
        for file, tree in trees():
            with self.subTest(file=file.name):
                bound = module_names(tree) + bound_names(tree)
                for node in ast.walk(tree):
                    if isinstance(node, ast.Name) and isinstance(node.ctx, ast.Load) and node.id not in bound:
                        self.assertIn(node.id, BUILTINS)

    def test_methods_and_attributes(self):
        own = []
        stored = []
        for file in files():
            for node in ast.walk(tree_of(file)):
                if isinstance(node, ast.ClassDef):
                    own.extend(one.name for one in node.body if isinstance(one, ast.FunctionDef))
                if isinstance(node, ast.Attribute) and isinstance(node.ctx, ast.Store):
                    stored.append(node.attr)
        for file, tree in trees():
            with self.subTest(file=file.name):
                called = [node.func for node in ast.walk(tree) if isinstance(node, ast.Call)]
                for node in ast.walk(tree):
                    if isinstance(node, ast.Attribute):
                        if node in called:
                            self.assertIn(node.attr, METHODS + own)
                        else:
                            self.assertIn(node.attr, stored)
                            self.assertNotIn(node.attr, NOT_FOR_ATTRIBUTES)

    def test_no_name_is_a_method_and_an_attribute_of_one_class(self):
        for file, tree in trees():
            with self.subTest(file=file.name):
                for node in ast.walk(tree):
                    if isinstance(node, ast.ClassDef):
                        methods = [one.name for one in node.body if isinstance(one, ast.FunctionDef)]
                        self.assertEqual(len(methods), len(set(methods)))
                        for one in ast.walk(node):
                            if isinstance(one, ast.Attribute) and isinstance(one.ctx, ast.Store):
                                self.assertNotIn(one.attr, methods)

    def test_is_stands_beside_none_true_and_false_only(self):
        for file, tree in trees():
            with self.subTest(file=file.name):
                for node in ast.walk(tree):
                    if isinstance(node, ast.Compare):
                        for sign, right in zip(node.ops, node.comparators):
                            if isinstance(sign, (ast.Is, ast.IsNot)):
                                self.assertIsInstance(right, ast.Constant)
                                self.assertIn(right.value, (None, True, False))

    def test_words_and_strings(self):
        for file, tree in trees():
            with self.subTest(file=file.name):
                for node in places_of_strings(tree):
                    if isinstance(node.value, str):
                        self.assertNotIn("%", node.value)
                        self.assertFalse(node.value.endswith("._") or node.value.endswith(".__"))
                        self.assertFalse(node.value.startswith("__") and node.value.endswith("__"))
                        for word in re.findall(r"\w+", node.value):
                            self.assertNotIn(word, NOT_AS_WORDS)
                self.assertNotIn("_wall", file.read_text(encoding="utf-8"))
                for node in ast.walk(tree):
                    for name in [getattr(node, "id", ""), getattr(node, "attr", "")]:
                        self.assertNotIn(name, NOT_AS_WORDS)

    def test_lists_and_dicts_at_module_level_are_only_read(self):
        for file, tree in trees():
            with self.subTest(file=file.name):
                tables = [node.targets[0].id for node in tree.body
                          if isinstance(node, ast.Assign) and isinstance(node.value, (ast.List, ast.Dict))]
                for node in tree.body:
                    if isinstance(node, ast.Assign) and isinstance(node.value, (ast.List, ast.Dict)):
                        for part in ast.walk(node.value):
                            self.assertTrue(part is node.value or not isinstance(part, (ast.List, ast.Dict)))
                allowed = []
                for node in ast.walk(tree):
                    if isinstance(node, ast.Subscript) and isinstance(node.ctx, ast.Load):
                        allowed.append(node.value)
                    if isinstance(node, ast.Attribute) and node.attr == "get":
                        allowed.append(node.value)
                    if isinstance(node, ast.Compare):
                        allowed.extend(node.comparators)
                for node in ast.walk(tree):
                    if isinstance(node, ast.Name) and isinstance(node.ctx, ast.Load) and node.id in tables:
                        self.assertIn(node, allowed, node.id)
                    if isinstance(node, ast.ImportFrom):
                        for alias in node.names:
                            self.assertNotIn(alias.name, self.tables_of(node.module), "a table is read in its own file")

    def tables_of(self, module):
        """The names of the lists and dicts at the module level of a file."""
        tree = tree_of(PACKAGE / (module.split(".")[1] + ".py"))
        return [node.targets[0].id for node in tree.body
                if isinstance(node, ast.Assign) and isinstance(node.value, (ast.List, ast.Dict))]

    def test_lambdas_take_one_plain_parameter(self):
        for file, tree in trees():
            with self.subTest(file=file.name):
                for node in ast.walk(tree):
                    if isinstance(node, ast.Lambda):
                        self.assertEqual(len(node.args.args), 1)
                        self.assertEqual(node.args.defaults, [])

    def test_what_a_loop_goes_over_is_not_modified_in_it(self):
        change = r"(\[[^\]]*\] = |\.(append|pop|clear|extend|insert|remove|update)\()"
        for file, tree in trees():
            with self.subTest(file=file.name):
                for node in ast.walk(tree):
                    if isinstance(node, ast.For) and isinstance(node.iter, (ast.Name, ast.Attribute)):
                        over = re.escape(ast.unparse(node.iter))
                        inside = "\n".join(ast.unparse(one) for one in node.body)
                        self.assertIsNone(re.search(r"(?<!\w)" + over + change, inside))

    def test_views_are_iterated_on_the_spot(self):
        for file, tree in trees():
            with self.subTest(file=file.name):
                spots = []
                for node in ast.walk(tree):
                    if isinstance(node, (ast.For, ast.comprehension)):
                        spots.append(node.iter)
                    if isinstance(node, ast.Call) and isinstance(node.func, ast.Name) and node.args:
                        if node.func.id in ("list", "tuple", "dict", "sorted", "sum", "any", "all", "enumerate", "zip"):
                            spots.append(node.args[0])
                for node in ast.walk(tree):
                    if isinstance(node, ast.Call):
                        name = getattr(node.func, "id", getattr(node.func, "attr", ""))
                        if name in ("zip", "enumerate", "reversed", "range", "items", "keys", "values"):
                            self.assertIn(node, spots)


if __name__ == "__main__":
    unittest.main()
