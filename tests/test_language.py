"""Rules of ../shared/LANGUAGE.md that can be checked by reading the package."""

import ast
import builtins
import pathlib
import re
import unittest

FOLDER = pathlib.Path(__file__).resolve().parent.parent / "drawnworks"
BUILTINS = set("""len range enumerate zip min max sum abs sorted reversed int str bool bytes list tuple dict set
    frozenset isinstance ord repr any all divmod super Exception ValueError TypeError KeyError IndexError LookupError
    ZeroDivisionError ArithmeticError OverflowError RuntimeError NotImplementedError""".split())
METHODS = set("""append clear copy count endswith extend find get index insert isalnum isalpha isdigit islower isspace
    isupper items join keys ljust lower lstrip partition pop remove replace reverse rfind rjust rpartition rsplit
    rstrip setdefault split splitlines startswith strip update upper values zfill bit_length""".split())
DOUBLE = set("__init__ __eq__ __repr__ __str__ __len__ __enter__ __exit__ __call__ __iter__".split())
BARRED_NAMES = set("""register mro elements open input version_info with_traceback add_note attrgetter breakpoint
    builtins compile dir eval exec exit gc getattr globals hasattr help id importlib license locals os quit setattr
    type vars sys __name__""".split())
BARRED_WORDS = """type typing typing_extensions enum Enum IntEnum StrEnum Flag IntFlag Generic Protocol ABC ABCMeta
    namedtuple NamedTuple TypedDict TYPE_CHECKING abstractmethod""".split()
BARRED_NODES = (ast.Global, ast.AsyncFunctionDef, ast.AsyncFor, ast.AsyncWith, ast.Await, ast.Import, ast.Div,
                ast.Yield, ast.YieldFrom, ast.NamedExpr, ast.AnnAssign)
OWN_ERRORS = "DrawError Over Halt Tired NoMore BadCount BadPlan NoWork BadText".split()
BUILTIN_KINDS = (str, int, list, dict, set, bytes, tuple)


def of_kind(tree, kind):
    return [node for node in ast.walk(tree) if isinstance(node, kind)]


def names_bound(tree):
    """All names that a file gives to something of its own, but for its imports."""
    names = [node.id for node in of_kind(tree, ast.Name) if not isinstance(node.ctx, ast.Load)]
    names += [node.name for node in of_kind(tree, (ast.FunctionDef, ast.ClassDef))]
    return names + [node.arg for node in of_kind(tree, ast.arg)]


def names_at_module_level(tree):
    """What a file defines: functions, classes and values, but for its imports."""
    names = [node.name for node in tree.body if isinstance(node, (ast.FunctionDef, ast.ClassDef))]
    return names + [target.id for node in tree.body if isinstance(node, ast.Assign) for target in node.targets]


class Rules(unittest.TestCase):
    def setUp(self):
        self.texts = {path.name: path.read_text("utf-8") for path in FOLDER.glob("*.py")}
        self.trees = {name: ast.parse(text) for name, text in self.texts.items()}
        self.assertIn("stages.py", self.texts)

    def each_node(self, kind):
        for file, tree in self.trees.items():
            for node in of_kind(tree, kind):
                yield f"{file}:{getattr(node, 'lineno', 0)}", node

    def test_l1_l14_files(self):
        for path in FOLDER.iterdir():
            if path.name != "__pycache__":
                self.assertRegex(path.name, r"\A(__init__|[a-z][a-z0-9_]*)\.py\Z")

    def test_l2_l16_imports(self):
        for where, node in self.each_node(ast.ImportFrom):
            self.assertRegex(node.module, r"\Adrawnworks\.[a-z]+\Z", where)
            self.assertEqual(node.level, 0, where)
            own = names_at_module_level(self.trees[node.module.split(".")[1] + ".py"])
            for one in node.names:
                self.assertIn(one.name, own, where)

    def test_l3_module_level(self):
        for file, tree in self.trees.items():
            for node in tree.body[1:]:
                self.assertIsInstance(node, (ast.ImportFrom, ast.FunctionDef, ast.ClassDef, ast.Assign), file)
            self.assertIsNotNone(ast.get_docstring(tree), file)

    def test_l4_l5_l6_l7_nodes(self):
        for file, tree in self.trees.items():
            self.assertEqual(of_kind(tree, BARRED_NODES), [], file)
        for where, node in self.each_node((ast.FunctionDef, ast.ClassDef)):
            self.assertEqual(node.decorator_list, [], where)
        for where, node in self.each_node(ast.Constant):
            self.assertNotIsInstance(node.value, (float, complex), where)

    def test_l6_nonlocal_stands_first(self):
        firsts = 0
        for _, node in self.each_node(ast.FunctionDef):
            firsts += isinstance(node.body[0], ast.Nonlocal)
        self.assertEqual(firsts, len(list(self.each_node(ast.Nonlocal))))

    def test_l8_builtins(self):
        for where, node in self.each_node(ast.Name):
            if hasattr(builtins, node.id):
                self.assertIn(node.id, BUILTINS, where)

    def test_l10_size(self):
        for file, text in self.texts.items():
            self.assertLessEqual(len(text.splitlines()), 400, file)
            self.assertLessEqual(max(len(line) for line in text.splitlines()), 120, file)
        for where, node in self.each_node(ast.FunctionDef):
            self.assertLessEqual(node.end_lineno - node.lineno + 1, 40, where)

    def test_l12_l15_l17_names(self):
        for file, tree in self.trees.items():
            attributes = [node.attr for node in of_kind(tree, ast.Attribute)]
            for name in names_bound(tree) + attributes:
                self.assertTrue(name in DOUBLE or re.fullmatch(r"[A-Za-z][A-Za-z0-9_]*", name), (file, name))
                self.assertNotIn(name, BARRED_NAMES, file)
            imports = [one.name for node in of_kind(tree, ast.ImportFrom) for one in node.names]
            for name in set(names_bound(tree)) - DOUBLE:
                self.assertFalse(hasattr(builtins, name) or name in imports, (file, name))

    def test_l14_l17_l27_signs_and_words(self):
        for file, text in self.texts.items():
            self.assertRegex(text, r"\A[ -~\n]*\Z", file)
            self.assertNotRegex(text, r"\b(" + "|".join(BARRED_WORDS) + r")\b", file)
            self.assertNotRegex(text, "dataclass|overload|contextmanager", file)
        for where, node in self.each_node(ast.Constant):
            if isinstance(node.value, str):
                self.assertNotIn("%", node.value, where)

    def test_l18_methods_and_attributes_have_names_of_their_own(self):
        methods, attributes = set(), set()
        for _, node in self.each_node(ast.ClassDef):
            methods |= {one.name for one in node.body if isinstance(one, ast.FunctionDef)}
        for _, node in self.each_node(ast.Attribute):
            if isinstance(node.ctx, ast.Store):
                attributes.add(node.attr)
        self.assertEqual(methods & attributes, set())
        for name in (methods | attributes) - DOUBLE:
            self.assertFalse(any(hasattr(kind, name) for kind in BUILTIN_KINDS), name)

    def test_l19_raise_and_except(self):
        for where, node in self.each_node(ast.Raise):
            self.assertTrue(node.exc is None or isinstance(node.exc, ast.Call), where)
        for where, node in self.each_node(ast.ExceptHandler):
            self.assertIn(node.type.id, OWN_ERRORS, where)

    def test_l20_is(self):
        for where, node in self.each_node(ast.Compare):
            for sign, right in zip(node.ops, node.comparators):
                if isinstance(sign, (ast.Is, ast.IsNot)):
                    self.assertTrue(isinstance(right, ast.Constant) and right.value in (None, True, False), where)

    def test_l25_methods_of_builtin_values(self):
        for where, node in self.each_node(ast.Attribute):
            if any(hasattr(kind, node.attr) for kind in BUILTIN_KINDS) and node.attr not in DOUBLE:
                self.assertIn(node.attr, METHODS, where)

    def test_l25_methods_are_called_where_they_stand(self):
        methods = METHODS | {one.name for _, node in self.each_node(ast.ClassDef) for one in node.body
                             if isinstance(one, ast.FunctionDef)}
        called = [node.func for _, node in self.each_node(ast.Call)]
        for where, node in self.each_node(ast.Attribute):
            if node.attr in methods:
                self.assertIn(node, called, where)


if __name__ == "__main__":
    unittest.main()
