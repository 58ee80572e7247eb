"""The package keeps to the small part of Python that it is written in, as far as its form shows it."""

import ast
import builtins
import pathlib
import re
import unittest

FOLDER = pathlib.Path(__file__).resolve().parent.parent / "rulechange"
FILES = sorted(FOLDER.glob("*.py"))

NODES = """
Module FunctionDef ClassDef arguments arg Return Assign For While If Raise Try ExceptHandler Expr Pass Break Continue
ImportFrom alias BoolOp And Or BinOp Add Sub Mult FloorDiv Mod Pow BitOr BitAnd BitXor LShift RShift UnaryOp Not USub
Invert IfExp Dict List Tuple ListComp comprehension Compare Eq NotEq Lt LtE Gt GtE Is IsNot In NotIn Call keyword
Constant Attribute Subscript Slice Name Load Store Lambda AugAssign
""".split()
BUILT_IN = """
len range enumerate zip min max sum abs sorted reversed int str bool list tuple dict set frozenset isinstance ord repr
any all divmod Exception ValueError KeyError IndexError LookupError ZeroDivisionError
""".split()
METHODS = """
append clear copy count endswith extend find get index insert isalnum isalpha isdigit islower isspace isupper items
join keys ljust lower lstrip partition pop remove replace reverse rfind rjust rpartition rsplit rstrip setdefault split
splitlines startswith strip update upper values zfill bit_length
""".split()
WORDS = """
type typing typing_extensions enum Enum IntEnum StrEnum Flag IntFlag Generic Protocol ABC ABCMeta namedtuple NamedTuple
TypedDict TYPE_CHECKING abstractmethod register mro elements open input version_info with_traceback add_note attrgetter
breakpoint compile copyright credits delattr dir eval exec exit gc getattr globals hasattr help id importlib license
locals methodcaller os quit setattr super vars sys
""".split()


def trees():
    return [(file.name, ast.parse(file.read_text("utf-8"))) for file in FILES]


def nodes(kind):
    return [(name, node) for name, tree in trees() for node in ast.walk(tree) if isinstance(node, kind)]


def top_names(tree):
    names = []
    for node in tree.body:
        if isinstance(node, (ast.FunctionDef, ast.ClassDef)):
            names.append(node.name)
        if isinstance(node, ast.Assign):
            names += [target.id for target in node.targets]
        if isinstance(node, ast.ImportFrom):
            names += [alias.asname or alias.name for alias in node.names]
    return names


class FilesTest(unittest.TestCase):
    def test_what_lies_in_the_package(self):
        found = {path.name for path in FOLDER.iterdir()} - {"__pycache__"}
        self.assertEqual(found, {file.name for file in FILES})
        self.assertIn("__init__.py", found)
        for name in found - {"__init__.py", "__main__.py"}:
            self.assertRegex(name, r"\A[a-z][a-z0-9_]*\.py\Z")
            self.assertNotIn(name[:-3], dir(builtins))

    def test_signs_and_sizes(self):
        for file in FILES:
            text = file.read_text("utf-8")
            self.assertRegex(text, r"\A[ -~\n]*\Z")
            self.assertLessEqual(len(text.splitlines()), 400)
            self.assertLessEqual(max(len(line) for line in text.splitlines()), 120)
        for name, node in nodes(ast.FunctionDef):
            self.assertLessEqual(node.end_lineno - node.lineno + 1, 40, (name, node.name))

    def test_words_that_stand_nowhere(self):
        for file in FILES:
            used = set(re.findall(r"[A-Za-z0-9_]+", file.read_text("utf-8")))
            self.assertEqual(used & set(WORDS), set(), file.name)


class FormTest(unittest.TestCase):
    def test_statements_and_expressions(self):
        for name, node in nodes(ast.AST):
            self.assertIn(ast.dump(node).partition("(")[0], NODES, (name, getattr(node, "lineno", 0)))

    def test_the_top_of_a_module(self):
        for name, tree in trees():
            self.assertTrue(ast.get_docstring(tree), name)
            for node in tree.body[1:]:
                self.assertIsInstance(node, (ast.ImportFrom, ast.Assign, ast.FunctionDef, ast.ClassDef), name)
                if isinstance(node, ast.Assign):
                    ast.literal_eval(node.value)
            self.assertEqual(len(top_names(tree)), len(set(top_names(tree))), name)

    def test_imports_are_the_package_s_own_and_draw_in_no_ring(self):
        drawn = {}
        for name, tree in trees():
            rows = [node for node in ast.walk(tree) if isinstance(node, ast.ImportFrom)]
            drawn["rulechange." + name[:-3]] = [row.module for row in rows]
            for row in rows:
                self.assertIn(row, tree.body)
                self.assertEqual(row.level, 0)
        self.assertEqual(drawn["rulechange.__init__"], [])
        while drawn:
            free = [name for name in drawn if not set(drawn[name]) & set(drawn)]
            self.assertTrue(free, drawn)
            for name in free:
                drawn.pop(name)

    def test_imported_names_are_defined_where_they_come_from(self):
        defined = {}
        for name, tree in trees():
            defined["rulechange." + name[:-3]] = [
                node.name for node in tree.body if isinstance(node, (ast.FunctionDef, ast.ClassDef))
            ] + [target.id for node in tree.body if isinstance(node, ast.Assign) for target in node.targets]
        for name, row in nodes(ast.ImportFrom):
            for alias in row.names:
                self.assertIn(alias.name, defined[row.module], name)

    def test_functions_and_assignments(self):
        for name, node in nodes(ast.FunctionDef):
            told = node.args
            self.assertFalse(told.vararg or told.kwarg or told.kwonlyargs or told.posonlyargs or node.decorator_list)
            self.assertFalse(node.returns or [arg for arg in told.args if arg.annotation])
        for name, node in nodes(ast.Assign):
            self.assertEqual(len(node.targets), 1)
        for name, node in nodes((ast.For, ast.While)):
            self.assertEqual(node.orelse, [])
        for name, node in nodes(ast.ListComp):
            self.assertEqual(len(node.generators), 1)
            self.assertLessEqual(len(node.generators[0].ifs), 1)
        for name, tree in trees():
            for node in ast.walk(tree):
                if isinstance(node, ast.Expr) and node != tree.body[0]:
                    self.assertIsInstance(node.value, ast.Call, name)


class NamesTest(unittest.TestCase):
    def test_names_are_plain(self):
        for name, node in nodes((ast.Name, ast.arg, ast.FunctionDef, ast.ClassDef)):
            word = getattr(node, "id", None) or getattr(node, "arg", None) or node.name
            self.assertTrue(word == "__init__" or not word.startswith("_"), (name, word))

    def test_python_s_own_names(self):
        for name, tree in trees():
            used = {node.id for node in ast.walk(tree) if isinstance(node, ast.Name)}
            self.assertEqual((used & set(dir(builtins))) - set(BUILT_IN), set(), name)

    def test_no_name_is_given_another_meaning(self):
        for name, tree in trees():
            taken = set(top_names(tree)) | set(dir(builtins))
            for function in [node for node in ast.walk(tree) if isinstance(node, ast.FunctionDef)]:
                local = {arg.arg for arg in function.args.args}
                local |= {n.id for n in ast.walk(function) if isinstance(n, ast.Name) and isinstance(n.ctx, ast.Store)}
                self.assertEqual(local & taken, set(), (name, function.name))

    def test_methods_and_values(self):
        stored = {node.attr for name, node in nodes(ast.Attribute) if isinstance(node.ctx, ast.Store)}
        python_s_own = {word for value in ("", 0, [], {}, (), set(), b"") for word in dir(value)}
        self.assertEqual(stored & python_s_own, set())
        called = {node.func.attr for name, node in nodes(ast.Call) if isinstance(node.func, ast.Attribute)}
        self.assertLessEqual(called, set(METHODS))
        read = {node.attr for name, node in nodes(ast.Attribute)}
        self.assertLessEqual(read, stored | called)

    def test_sets_are_only_counted_on_the_spot(self):
        for name, tree in trees():
            inside = [
                node.args[0]
                for node in ast.walk(tree)
                if isinstance(node, ast.Call) and isinstance(node.func, ast.Name) and node.func.id in ("len", "sorted")
            ]
            for node in ast.walk(tree):
                if isinstance(node, ast.Call) and isinstance(node.func, ast.Name) and node.func.id in ("set", "frozenset"):
                    self.assertIn(node, inside, name)


if __name__ == "__main__":
    unittest.main()
