"""The package keeps to its small part of Python: what can be told from the files' form."""

import ast
import builtins
import pathlib
import re
import unittest

PACKAGE = pathlib.Path(__file__).resolve().parent.parent / "greyreel"
FILES = sorted(PACKAGE.glob("*.py"))

NODES = (
    "Module ImportFrom alias FunctionDef ClassDef arguments arg Assign AugAssign If While For Return Break Continue "
    "Pass Raise Try ExceptHandler Expr Call Name Load Store Constant List Tuple Dict BinOp UnaryOp BoolOp Compare IfExp "
    "Attribute Subscript Slice ListComp comprehension Lambda JoinedStr FormattedValue Add Sub Mult FloorDiv Mod Pow "
    "LShift RShift BitOr BitXor BitAnd Invert USub UAdd Not And Or Eq NotEq Lt LtE Gt GtE In NotIn Is IsNot").split()
OWN_NAMES = (
    "len range enumerate zip min max sum abs sorted reversed int str bool list tuple dict set frozenset isinstance ord "
    "repr any all divmod Exception ValueError TypeError KeyError IndexError LookupError ZeroDivisionError "
    "ArithmeticError OverflowError RuntimeError NotImplementedError AttributeError StopIteration").split()
METHODS = (
    "append clear copy count endswith extend find get index insert isalnum isalpha isdigit islower isspace isupper "
    "items join keys ljust lower lstrip partition pop remove replace reverse rfind rjust rpartition rsplit rstrip "
    "setdefault split splitlines startswith strip update upper values zfill bit_length").split()
WORDS = (
    "type typing typing_extensions enum Enum IntEnum StrEnum Flag IntFlag Generic Protocol ABC ABCMeta namedtuple "
    "NamedTuple TypedDict TYPE_CHECKING abstractmethod").split()
PARTS_OF_WORDS = ("dataclass", "overload", "contextmanager")
PYTHONS_OWN = [member for kind in (str, int, list, dict, set, bytes, tuple) for member in dir(kind)]
WALKED = ("zip", "enumerate", "reversed", "range", "items", "keys", "values")
WALKERS = ("list", "tuple", "dict", "sorted", "sum", "any", "all", "enumerate", "zip")


def tree(path):
    return ast.parse(path.read_text(encoding="utf-8"))


def called(node):
    """The name by which a call calls."""
    if isinstance(node.func, ast.Attribute):
        return node.func.attr
    return node.func.id if isinstance(node.func, ast.Name) else ""


def imports(path):
    return [node for node in tree(path).body if isinstance(node, ast.ImportFrom)]


class Language(unittest.TestCase):

    def each(self, kind):
        for path in FILES:
            for node in ast.walk(tree(path)):
                if isinstance(node, kind):
                    yield f"{path.name}:{getattr(node, 'lineno', 0)}", node

    def test_files(self):
        for path in PACKAGE.iterdir():
            if path.name != "__pycache__":
                self.assertRegex(path.name, r"^(__init__|[a-z][a-z0-9_]*)\.py$")
                self.assertFalse(path.stem.startswith("test") or path.stem in dir(builtins), path.name)

    def test_signs_lines_and_words(self):
        for path in FILES:
            text = path.read_text(encoding="utf-8")
            self.assertRegex(text, r"\A[\n -~]*\Z", path.name)
            self.assertLessEqual(len(text.splitlines()), 400, path.name)
            for line in text.splitlines():
                self.assertLessEqual(len(line), 120, path.name)
            for word in WORDS:
                self.assertNotRegex(text, r"\b" + word + r"\b", path.name)
            for word in PARTS_OF_WORDS:
                self.assertNotIn(word, text, path.name)

    def test_statements_and_expressions(self):
        for place, node in self.each(ast.AST):
            self.assertIn(type(node).__name__, NODES, place)

    def test_values(self):
        for place, node in self.each(ast.Constant):
            self.assertIn(type(node.value), (int, str, bool, type(None)), place)
            if isinstance(node.value, str):
                self.assertNotIn("%", node.value, place)

    def test_functions(self):
        for place, node in self.each(ast.FunctionDef):
            self.assertLessEqual(node.end_lineno - node.lineno + 1, 40, place)
            self.assertEqual(node.decorator_list, [], place)
            self.assertIsNone(node.args.vararg or node.args.kwarg, place)
            self.assertEqual(node.args.kwonlyargs + node.args.posonlyargs, [], place)
            # Remarks stand above a function: a text by itself is no statement of this part.
            self.assertIsNone(ast.get_docstring(node), place)
        for place, node in self.each(ast.ClassDef):
            self.assertLessEqual(len(node.bases), 1, place)
            self.assertEqual([item for item in node.body if not isinstance(item, (ast.FunctionDef, ast.Pass))], [],
                             place)

    def test_one_target_and_one_for(self):
        for place, node in self.each(ast.Assign):
            self.assertEqual(len(node.targets), 1, place)
        for place, node in self.each(ast.ListComp):
            self.assertEqual(len(node.generators), 1, place)
            self.assertLessEqual(len(node.generators[0].ifs), 1, place)
        for place, node in self.each((ast.For, ast.While)):
            self.assertEqual(node.orelse, [], place)
        for place, node in self.each(ast.Expr):
            self.assertTrue(isinstance(node.value, ast.Call) or place.endswith(":1"), place)

    def test_the_top_of_a_file(self):
        for path in FILES:
            names = []
            for k, node in enumerate(tree(path).body):
                if isinstance(node, ast.Expr):
                    self.assertEqual(k, 0, path.name)
                elif isinstance(node, ast.Assign):
                    ast.literal_eval(node.value)
                    names.append(node.targets[0].id)
                elif isinstance(node, ast.ImportFrom):
                    names += [alias.name for alias in node.names]
                else:
                    self.assertIsInstance(node, (ast.FunctionDef, ast.ClassDef), path.name)
                    names.append(node.name)
            self.assertEqual(len(names), len(set(names)), path.name)

    def test_imports(self):
        drawn = {path.stem: [node.module.split(".")[-1] for node in imports(path)] for path in FILES}
        for path in FILES:
            for node in imports(path):
                self.assertRegex(node.module, r"^greyreel\.[a-z0-9_]+$", path.name)
                source = tree(PACKAGE / (node.module.split(".")[-1] + ".py"))
                defined = [item.name for item in source.body if isinstance(item, (ast.FunctionDef, ast.ClassDef))]
                defined += [item.targets[0].id for item in source.body if isinstance(item, ast.Assign)]
                for alias in node.names:
                    self.assertIn(alias.name, defined, path.name)
                    self.assertIsNone(alias.asname, path.name)
        ready = []
        for turn in FILES:
            ready += [name for name in drawn if name not in ready and set(drawn[name]) <= set(ready)]
        self.assertEqual(sorted(ready), sorted(drawn))

    def test_names(self):
        for path in FILES:
            top = tree(path)
            taken = [alias.name for node in imports(path) for alias in node.names]
            taken += [node.name for node in top.body if isinstance(node, ast.ClassDef)]
            for node in ast.walk(top):
                place = f"{path.name}:{getattr(node, 'lineno', 0)}"
                local = node.arg if isinstance(node, ast.arg) else ""
                if isinstance(node, ast.Name) and isinstance(node.ctx, ast.Store):
                    local = node.id
                if local:
                    self.assertRegex(local, r"^[A-Za-z][A-Za-z0-9_]*$", place)
                    self.assertNotIn(local, taken + dir(builtins), place)
                if isinstance(node, ast.Name) and node.id in dir(builtins):
                    self.assertIn(node.id, OWN_NAMES, place)

    def test_methods_and_values(self):
        methods = [item.name for place, node in self.each(ast.ClassDef) for item in node.body
                   if isinstance(item, ast.FunctionDef)]
        values = []
        for place, node in self.each(ast.Attribute):
            if isinstance(node.ctx, ast.Store):
                values.append(node.attr)
                self.assertNotIn(node.attr, PYTHONS_OWN, place)
                self.assertNotIn(node.attr, methods, place)
        for name in methods:
            self.assertTrue(name == "__init__" or name not in PYTHONS_OWN, name)
        for place, node in self.each(ast.Attribute):
            self.assertIn(node.attr, METHODS + methods + values, place)

    def test_walked_at_once(self):
        for path in FILES:
            fine = []
            for node in ast.walk(tree(path)):
                if isinstance(node, (ast.For, ast.comprehension)):
                    fine.append(ast.dump(node.iter, include_attributes=True))
                if isinstance(node, ast.Call) and called(node) in WALKERS and node.args:
                    fine.append(ast.dump(node.args[0], include_attributes=True))
            for node in ast.walk(tree(path)):
                if isinstance(node, ast.Call) and called(node) in WALKED:
                    self.assertIn(ast.dump(node, include_attributes=True), fine, f"{path.name}:{node.lineno}")

    def test_is_beside_none(self):
        for place, node in self.each(ast.Compare):
            for operator, value in zip(node.ops, node.comparators):
                if isinstance(operator, (ast.Is, ast.IsNot)):
                    self.assertTrue(isinstance(value, ast.Constant) and value.value in (None, True, False), place)

    def test_nothing_of_a_file_s_top_is_a_list_or_a_dict(self):
        for path in FILES:
            for node in tree(path).body:
                if isinstance(node, ast.Assign):
                    self.assertFalse([item for item in ast.walk(node) if isinstance(item, (ast.List, ast.Dict))])

    def test_no_power_but_a_written_one(self):
        for place, node in self.each(ast.BinOp):
            if isinstance(node.op, ast.Pow):
                self.assertIsInstance(node.right, ast.Constant, place)

    def test_the_rules_see_the_files(self):
        self.assertGreater(len(FILES), 5)
        self.assertTrue(re.search("def answers", (PACKAGE / "desk.py").read_text(encoding="utf-8")))


if __name__ == "__main__":
    unittest.main()
