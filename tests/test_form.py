"""That the package keeps to the small part of Python that it is written in."""

import ast
import builtins
import functools
import pathlib
import re
import unittest

PACKAGE = pathlib.Path(__file__).resolve().parent.parent / "toldtale"
FILES = sorted(path for path in PACKAGE.iterdir() if path.name != "__pycache__")

NODES = """
Module ImportFrom alias FunctionDef ClassDef arguments arg Assign AugAssign If While For Return Break Continue Pass
Raise Try ExceptHandler Expr Constant Name Attribute Subscript Slice Call List Tuple Dict ListComp comprehension
BinOp UnaryOp BoolOp Compare IfExp Load Store Add Sub Mult FloorDiv Mod BitAnd BitOr And Or Not USub Eq NotEq Lt LtE Gt GtE Is
IsNot In NotIn
""".split()
PYTHONS_NAMES = """
len range enumerate zip min max sum abs sorted reversed int str bool list tuple dict set isinstance ord repr any all
divmod ValueError KeyError
""".split()
METHODS = """
append clear copy count endswith extend find get index insert isalnum isalpha isdigit islower isspace isupper items
join keys ljust lower lstrip partition pop remove replace reverse rfind rjust rpartition rsplit rstrip setdefault split
splitlines startswith strip update upper values zfill bit_length
""".split()
FORBIDDEN_WORDS = """
type typing typing_extensions enum Enum IntEnum StrEnum Flag IntFlag Generic Protocol ABC ABCMeta namedtuple NamedTuple
TypedDict TYPE_CHECKING abstractmethod
""".split()
FORBIDDEN_PARTS = ("dataclass", "overload", "contextmanager")
NOT_NAMES = """
register mro elements open input version_info with_traceback add_note attrgetter breakpoint builtins compile copyright
credits delattr dir eval exec exit gc getattr globals hasattr help id importlib license locals methodcaller os quit
setattr super type vars sys chr print float bytes object format
""".split()
PYTHONS_VALUES = (str, int, list, dict, set, bytes, tuple)


@functools.cache
def trees():
    return {path.stem: ast.parse(path.read_text("ascii")) for path in FILES}


def walked(kind):
    for stem, tree in trees().items():
        for node in ast.walk(tree):
            if isinstance(node, kind):
                yield stem, node


def classes():
    return [node for stem, node in walked(ast.ClassDef)]


def own_methods():
    return [node.name for owner in classes() for node in owner.body if isinstance(node, ast.FunctionDef)]


def own_values():
    return [node.attr for stem, node in walked(ast.Attribute) if isinstance(node.ctx, ast.Store)]


def bound_at_top(tree):
    names = []
    for node in tree.body:
        if isinstance(node, (ast.FunctionDef, ast.ClassDef)):
            names.append(node.name)
        elif isinstance(node, ast.Assign):
            names.extend(target.id for target in node.targets)
        elif isinstance(node, ast.ImportFrom):
            names.extend(one.name for one in node.names)
    return names


def bound_within(node):
    names = [one.arg for one in ast.walk(node) if isinstance(one, ast.arg)]
    return names + [one.id for one in ast.walk(node) if isinstance(one, ast.Name) and isinstance(one.ctx, ast.Store)]


class Form(unittest.TestCase):
    def test_files(self):
        self.assertIn(PACKAGE / "tales.py", FILES)
        self.assertIn(PACKAGE / "__init__.py", FILES)
        for path in FILES:
            self.assertRegex(path.name, r"\A([a-z][a-z0-9]*|__init__)\.py\Z")
            self.assertFalse(path.stem in dir(builtins) and path.stem != "__init__", path.name)

    def test_signs_and_sizes(self):
        for path in FILES:
            rows = path.read_bytes().split(b"\n")
            self.assertLessEqual(len(rows), 400)
            for row in rows:
                self.assertLessEqual(len(row), 120)
                self.assertTrue(all(32 <= code <= 126 for code in row), row)
        for stem, node in walked(ast.FunctionDef):
            self.assertLessEqual(node.end_lineno - node.lineno + 1, 40, node.name)

    def test_words(self):
        for path in FILES:
            text = path.read_text("ascii")
            self.assertEqual(set(re.findall(r"\w+", text)) & set(FORBIDDEN_WORDS), set(), path.name)
            for part in FORBIDDEN_PARTS:
                self.assertNotIn(part, text)

    def test_nodes(self):
        for stem, node in walked(ast.AST):
            self.assertIn(node.__class__.__name__, NODES, (stem, getattr(node, "lineno", 0)))

    def test_top_of_a_file(self):
        for stem, tree in trees().items():
            self.assertIsInstance(tree.body[0], ast.Expr, stem)
            for node in tree.body[1:]:
                self.assertIsInstance(node, (ast.ImportFrom, ast.Assign, ast.FunctionDef, ast.ClassDef), stem)
            names = bound_at_top(tree)
            self.assertEqual(len(names), len(set(names)), stem)

    def test_top_values_are_plain(self):
        for stem, tree in trees().items():
            for node in tree.body:
                if isinstance(node, ast.Assign):
                    value = ast.literal_eval(node.value)
                    parts = list(value) if isinstance(value, (list, tuple)) else []
                    parts += list(value.values()) if isinstance(value, dict) else []
                    self.assertFalse([part for part in parts if isinstance(part, (list, dict))], stem)

    def test_imports(self):
        drawn = {stem: [] for stem in trees()}
        for stem, node in walked(ast.ImportFrom):
            package, dot, file = node.module.partition(".")
            self.assertEqual((package, node.level), ("toldtale", 0))
            for one in node.names:
                self.assertIsNone(one.asname)
                defined = [made.name for made in trees()[file].body if hasattr(made, "name")]
                defined += [name.id for made in trees()[file].body if isinstance(made, ast.Assign)
                            for name in made.targets]
                self.assertIn(one.name, defined)
            drawn[stem].append(file)
        while drawn:
            free = [stem for stem in drawn if not set(drawn[stem]) & set(drawn)]
            self.assertTrue(free, f"files draw from one another: {sorted(drawn)}")
            for stem in free:
                drawn.pop(stem)

    def test_functions(self):
        for stem, node in walked(ast.FunctionDef):
            given = node.args
            self.assertEqual((given.vararg, given.kwarg, given.kwonlyargs, given.posonlyargs), (None, None, [], []))
            self.assertEqual((node.decorator_list, node.returns), ([], None))
            self.assertFalse([one for one in given.args if one.annotation])

    def test_classes(self):
        for node in classes():
            self.assertEqual((node.decorator_list, node.keywords), ([], []))
            self.assertLessEqual(len(node.bases), 1)
            for part in node.body:
                self.assertIsInstance(part, (ast.FunctionDef, ast.Pass))
        self.assertEqual(set(own_methods()) & set(own_values()), set())

    def test_names(self):
        for stem, tree in trees().items():
            for node in ast.walk(tree):
                name = getattr(node, "id", None) or getattr(node, "attr", None) or getattr(node, "arg", None)
                if isinstance(name, str):
                    self.assertRegex(name, r"\A[A-Za-z][A-Za-z0-9_]*\Z", stem)
                if isinstance(node, ast.Name):
                    self.assertNotIn(node.id, NOT_NAMES, stem)

    def test_names_bound_within(self):
        for stem, tree in trees().items():
            taken = bound_at_top(tree)
            for node in ast.walk(tree):
                if isinstance(node, ast.FunctionDef):
                    for name in bound_within(node):
                        self.assertNotIn(name, taken, (stem, node.name))
                        self.assertFalse(hasattr(builtins, name), (stem, node.name, name))

    def test_every_name_is_known(self):
        for stem, tree in trees().items():
            known = PYTHONS_NAMES + bound_at_top(tree) + bound_within(tree)
            for node in ast.walk(tree):
                if isinstance(node, ast.Name):
                    self.assertIn(node.id, known, stem)

    def test_methods_and_values(self):
        for stem, node in walked(ast.Attribute):
            self.assertIn(node.attr, METHODS + own_methods() + own_values(), stem)
        for name in own_methods() + own_values():
            taken = [kind for kind in PYTHONS_VALUES if hasattr(kind, name) and name != "__init__"]
            self.assertEqual(taken, [], name)

    def test_calls(self):
        for stem, node in walked(ast.Call):
            self.assertEqual(node.keywords, [], stem)

    def test_is_stands_beside_none(self):
        for stem, node in walked(ast.Compare):
            for sign, right in zip(node.ops, node.comparators):
                if isinstance(sign, (ast.Is, ast.IsNot)):
                    self.assertIn(ast.unparse(right), ("None", "True", "False"), stem)

    def test_handlers(self):
        own = [node.name for node in classes()]
        for stem, node in walked(ast.ExceptHandler):
            self.assertIn(ast.unparse(node.type), own, stem)
        for stem, node in walked(ast.Raise):
            self.assertIsInstance(node.exc, ast.Call, stem)
            self.assertIn(node.exc.func.id, own, stem)

    def test_assignments(self):
        for stem, node in walked(ast.Assign):
            self.assertEqual(len(node.targets), 1, stem)
            self.assertNotIsInstance(node.targets[0], (ast.Tuple, ast.List), stem)

    def test_texts_and_sentences_alone(self):
        for stem, node in walked(ast.Constant):
            self.assertNotIsInstance(node.value, (float, bytes, complex), stem)
            if isinstance(node.value, str):
                self.assertNotIn("%", node.value)
        for stem, tree in trees().items():
            alone = [node for node in ast.walk(tree) if isinstance(node, ast.Expr)]
            for node in alone:
                if node is not tree.body[0]:
                    self.assertIsInstance(node.value, ast.Call, stem)

    def test_loops_have_no_else(self):
        for stem, node in walked((ast.For, ast.While)):
            self.assertEqual(node.orelse, [], stem)
        for stem, node in walked(ast.Try):
            self.assertEqual(node.finalbody, [], stem)

    def test_sets_stand_where_they_are_asked(self):
        for stem, tree in trees().items():
            held = [arg for node in ast.walk(tree) if isinstance(node, ast.Call)
                    and ast.unparse(node.func) in ("len", "sorted") for arg in node.args]
            for node in ast.walk(tree):
                if isinstance(node, ast.Call) and ast.unparse(node.func) == "set":
                    self.assertIn(node, held, stem)

    def test_no_function_calls_itself(self):
        made = {node.name: node for stem, node in walked(ast.FunctionDef)}
        called = {name: {ast.unparse(one.func).split(".")[-1] for one in ast.walk(node) if isinstance(one, ast.Call)}
                  & set(made) for name, node in made.items()}
        while called:
            free = [name for name in called if not called[name] & set(called)]
            self.assertTrue(free, f"functions call one another: {sorted(called)}")
            for name in free:
                called.pop(name)


if __name__ == "__main__":
    unittest.main()
