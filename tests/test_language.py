"""The package's own files keep to the part of Python that the program is written in."""

import ast
import pathlib
import re
import unittest

PACKAGE = pathlib.Path(__file__).resolve().parent.parent / "shipradio"

BUILT_IN = set(
    "len range enumerate zip min max sum abs sorted reversed int str bool list tuple dict set frozenset isinstance ord"
    " repr any all divmod Exception ValueError TypeError KeyError IndexError LookupError ZeroDivisionError"
    " ArithmeticError OverflowError RuntimeError NotImplementedError AttributeError StopIteration".split())
METHODS = set(
    "append clear copy count endswith extend find get index insert isalnum isalpha isdigit islower isspace isupper"
    " items join keys ljust lower lstrip partition pop remove replace reverse rfind rjust rpartition rsplit rstrip"
    " setdefault split splitlines startswith strip update upper values zfill bit_length".split())
NODES = set(
    "Module Import ImportFrom alias FunctionDef ClassDef arguments arg Assign If While For Return Break Continue Pass"
    " Raise Try ExceptHandler Expr Call Name Load Store Attribute Subscript Slice Constant List Tuple Dict"
    " ListComp comprehension JoinedStr FormattedValue BinOp UnaryOp BoolOp Compare IfExp Lambda"
    " Add Sub Mult FloorDiv Mod Pow BitXor BitAnd BitOr LShift RShift Invert USub UAdd Not And Or"
    " Eq NotEq Lt LtE Gt GtE In NotIn Is IsNot keyword".split())
WORDS_OUT = set(
    "type typing typing_extensions enum Enum IntEnum StrEnum Flag IntFlag Generic Protocol ABC ABCMeta namedtuple"
    " NamedTuple TypedDict TYPE_CHECKING abstractmethod".split())
NAMES_OUT = set("register mro elements open input version_info with_traceback add_note format format_map".split())
VALUES = (str, int, float, list, dict, tuple, set, frozenset, bytes)
VALUE_NAMES = {name for kind in VALUES for name in dir(kind)}


def files():
    return sorted(PACKAGE.glob("*.py"))


def trees():
    return [(path.name, ast.parse(path.read_text("ascii"))) for path in files()]


def walked(kind):
    for name, tree in trees():
        for node in ast.walk(tree):
            if isinstance(node, kind):
                yield name, node


def classes():
    return [node for name, node in walked(ast.ClassDef)]


def own_methods():
    return {item.name for node in classes() for item in node.body if isinstance(item, ast.FunctionDef)}


def own_values():
    return {node.attr for name, node in walked(ast.Attribute) if isinstance(node.ctx, ast.Store)}


class Files(unittest.TestCase):
    def test_only_plain_files(self):
        found = [path for path in PACKAGE.iterdir() if path.name != "__pycache__"]
        self.assertEqual(sorted(found), files())
        self.assertIn(PACKAGE / "__init__.py", found)
        for path in found:
            self.assertRegex(path.name, r"^([a-z][a-z0-9_]*|__init__)\.py$")

    def test_signs_and_size(self):
        for path in files():
            text = path.read_bytes().decode("ascii")
            self.assertRegex(text, r"\A[\n -~]*\Z")
            rows = text.splitlines()
            self.assertLessEqual(len(rows), 400, path.name)
            self.assertLessEqual(max(len(row) for row in rows), 120, path.name)
            self.assertEqual(set(re.findall(r"\w+", text)) & WORDS_OUT, set(), path.name)

    def test_functions_are_small(self):
        for name, node in walked(ast.FunctionDef):
            self.assertLessEqual(node.end_lineno - node.lineno + 1, 40, (name, node.name))


class Form(unittest.TestCase):
    def test_statements_and_expressions(self):
        for name, node in walked(ast.AST):
            self.assertIn(type(node).__name__, NODES, (name, getattr(node, "lineno", 0)))

    def test_constants(self):
        for name, node in walked(ast.Constant):
            self.assertIn(type(node.value), (int, str, bool, type(None)), (name, node.lineno))
            if isinstance(node.value, str):
                self.assertNotIn("%", node.value, (name, node.lineno))

    def test_texts_by_themselves_stand_at_a_file_s_top_alone(self):
        for name, tree in trees():
            for node in ast.walk(tree):
                if isinstance(node, ast.Expr) and node is not tree.body[0]:
                    self.assertIsInstance(node.value, ast.Call, (name, node.lineno))

    def test_the_top_of_a_file(self):
        for name, tree in trees():
            self.assertIsInstance(ast.get_docstring(tree), str)
            bound = []
            for node in tree.body[1:]:
                self.assertIsInstance(node, (ast.ImportFrom, ast.FunctionDef, ast.ClassDef, ast.Assign), name)
                if isinstance(node, ast.Assign):
                    ast.literal_eval(node.value)
                    bound.extend(target.id for target in node.targets)
                elif isinstance(node, ast.ImportFrom):
                    bound.extend(alias.name for alias in node.names)
                else:
                    bound.append(node.name)
            self.assertEqual(len(bound), len(set(bound)), name)

    def test_imports(self):
        modules = {"shipradio." + path.stem: tree for path, (name, tree) in zip(files(), trees())}
        for name, node in walked(ast.Import):
            self.fail(name)
        for name, node in walked(ast.ImportFrom):
            self.assertIn(node.module, modules, name)
            defined = {item.name for item in modules[node.module].body if hasattr(item, "name")}
            for item in modules[node.module].body:
                if isinstance(item, ast.Assign):
                    defined.add(item.targets[0].id)
            for alias in node.names:
                self.assertIn(alias.name, defined, name)
                self.assertIsNone(alias.asname, name)

    def test_imports_go_one_way(self):
        drawn = {path.stem: set() for path in files()}
        for name, node in walked(ast.ImportFrom):
            drawn[name[:-3]].add(node.module.split(".")[1])
        while drawn:
            ready = [name for name in drawn if not drawn[name]]
            self.assertNotEqual(ready, [], drawn)
            drawn = {name: drawn[name] - set(ready) for name in drawn if name not in ready}

    def test_assignments(self):
        for name, node in walked(ast.Assign):
            self.assertEqual(len(node.targets), 1, (name, node.lineno))

    def test_comprehensions(self):
        for name, node in walked(ast.ListComp):
            self.assertEqual(len(node.generators), 1, (name, node.lineno))
            self.assertLessEqual(len(node.generators[0].ifs), 1, (name, node.lineno))

    def test_is_stands_beside_none(self):
        for name, node in walked(ast.Compare):
            if isinstance(node.ops[0], (ast.Is, ast.IsNot)):
                self.assertIn(node.comparators[0].value, (None, True, False), (name, node.lineno))

    def test_no_power_but_a_written_one(self):
        for name, node in walked(ast.BinOp):
            if isinstance(node.op, ast.Pow):
                self.assertIsInstance(node.right, ast.Constant, (name, node.lineno))

    def test_functions_have_plain_parameters(self):
        for name, node in walked(ast.FunctionDef):
            given = node.args
            self.assertEqual((given.vararg, given.kwarg, given.kwonlyargs, given.posonlyargs), (None, None, [], []))
            self.assertEqual(node.decorator_list, [], (name, node.name))

    def test_errors_are_own_and_made_on_the_spot(self):
        own = {node.name for node in classes()}
        for name, node in walked(ast.Raise):
            self.assertIn(node.exc.func.id, own, (name, node.lineno))
        for name, node in walked(ast.ExceptHandler):
            self.assertIn(node.type.id, own, (name, node.lineno))


class Names(unittest.TestCase):
    def test_names_are_plain(self):
        for name, node in walked((ast.Name, ast.arg, ast.FunctionDef, ast.ClassDef, ast.Attribute)):
            for field in ("id", "arg", "name", "attr"):
                word = getattr(node, field, None)
                if word is not None and word != "__init__":
                    self.assertRegex(word, r"^[A-Za-z][A-Za-z0-9_]*$", (name, node.lineno))
                    self.assertNotIn(word, NAMES_OUT, (name, node.lineno))

    def test_names_are_own_or_of_the_list(self):
        builtin = set(dir(__builtins__) if not isinstance(__builtins__, dict) else __builtins__)
        for name, node in walked(ast.Name):
            if isinstance(node.ctx, ast.Store):
                self.assertNotIn(node.id, builtin, (name, node.lineno))
            elif node.id in builtin:
                self.assertIn(node.id, BUILT_IN, (name, node.lineno))
        for name, node in walked(ast.arg):
            self.assertNotIn(node.arg, builtin, (name, node.lineno))

    def test_methods_of_python_s_own_values(self):
        for name, node in walked(ast.Attribute):
            if node.attr not in own_methods() | own_values():
                self.assertIn(node.attr, METHODS, (name, node.lineno))

    def test_own_methods_and_values(self):
        self.assertEqual(own_methods() & own_values(), set())
        self.assertEqual((own_methods() - {"__init__"}) & VALUE_NAMES, set())
        self.assertEqual(own_values() & VALUE_NAMES, set())

    def test_class_bodies_hold_methods_alone(self):
        for node in classes():
            self.assertLessEqual(len(node.bases), 1)
            for item in node.body:
                self.assertIsInstance(item, (ast.FunctionDef, ast.Pass), node.name)

    def test_the_interface(self):
        answers = [node for name, node in walked(ast.FunctionDef) if (name, node.name) == ("ships.py", "answers")]
        self.assertEqual([argument.arg for argument in answers[0].args.args], ["calls"])


if __name__ == "__main__":
    unittest.main()
