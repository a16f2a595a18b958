"""The form of the program: the rules of LANGUAGE.md that can be seen from its files."""

import ast
import builtins
import pathlib
import re
import unittest

FOLDER = pathlib.Path(__file__).resolve().parent.parent / "queuedparts"
FILES = sorted(path for path in FOLDER.rglob("*") if "__pycache__" not in path.parts)

STATEMENTS = (ast.Assign, ast.AugAssign, ast.If, ast.While, ast.For, ast.Return, ast.Break, ast.Continue, ast.Pass,
              ast.Raise, ast.Try, ast.Expr, ast.FunctionDef, ast.ClassDef, ast.ImportFrom)
EXPRESSIONS = (ast.Constant, ast.List, ast.Tuple, ast.Dict, ast.BinOp, ast.UnaryOp, ast.Compare, ast.BoolOp, ast.IfExp,
               ast.Call, ast.Attribute, ast.Subscript, ast.Slice, ast.ListComp, ast.Name, ast.Lambda)
ERRORS = ("Exception ValueError TypeError KeyError IndexError LookupError ZeroDivisionError ArithmeticError "
          "OverflowError RuntimeError NotImplementedError AttributeError StopIteration").split()
CALLED = ("len range enumerate zip min max sum abs sorted reversed int str bool list tuple dict set frozenset "
          "isinstance ord repr any all divmod").split()
METHODS = ("append clear copy count endswith extend find get index insert isalnum isalpha isdigit islower isspace "
           "isupper items join keys ljust lower lstrip partition pop remove replace reverse rfind rjust rpartition "
           "rsplit rstrip setdefault split splitlines startswith strip update upper values zfill bit_length").split()
OWN_VALUES = "count index title find get join lower upper split strip copy add".split()
WALKED = ("zip", "enumerate", "reversed", "range")
WALKERS = ("list", "tuple", "dict", "sorted", "sum", "any", "all", "enumerate", "zip", "min", "max")
WORDS = ("type typing typing_extensions enum Enum IntEnum StrEnum Flag IntFlag Generic Protocol ABC ABCMeta "
         "namedtuple NamedTuple TypedDict TYPE_CHECKING abstractmethod").split()
TAKEN = {name for kind in (str, int, list, dict, set, bytes) for name in dir(kind)}


TREES = [(path, ast.parse(path.read_text())) for path in FILES if path.suffix == ".py"]


def nodes(*kinds):
    return [(f"{path.name}:{getattr(node, 'lineno', 0)}", node) for path, tree in TREES for node in ast.walk(tree)
            if isinstance(node, kinds)]


def parents(tree):
    return {child: node for node in ast.walk(tree) for child in ast.iter_child_nodes(node)}


def own_methods():
    return {item.name for place, node in nodes(ast.ClassDef) for item in node.body if isinstance(item, ast.FunctionDef)}


def own_values():
    return {node.attr for place, node in nodes(ast.Attribute) if isinstance(node.ctx, ast.Store)}


class Files(unittest.TestCase):
    def test_there_are_python_files_alone(self):
        self.assertIn("desk.py", [path.name for path in FILES])
        for path in FILES:
            self.assertRegex(path.name, r"^(__init__|[a-z][a-z0-9_]*)\.py$")
            self.assertNotIn(path.stem, dir(builtins))
            self.assertNotRegex(path.stem, r"^(test.*|site|conftest|sitecustomize|usercustomize)$")

    def test_size_and_signs(self):
        for path in FILES:
            lines = path.read_text().split("\n")
            self.assertLessEqual(len(lines), 400, path)
            for number, line in enumerate(lines, start=1):
                self.assertLessEqual(len(line), 120, f"{path.name}:{number}")
                self.assertRegex(line, r"^[ -~]*$", f"{path.name}:{number}")
        for place, node in nodes(ast.FunctionDef):
            self.assertLessEqual(node.end_lineno - node.lineno + 1, 40, place)

    def test_words_that_stand_nowhere(self):
        for path in FILES:
            text = path.read_text()
            self.assertEqual([word for word in WORDS if re.search(rf"\b{word}\b", text)], [], path)
            self.assertNotRegex(text, "dataclass|overload|contextmanager")

    def test_init_binds_nothing(self):
        body = ast.parse((FOLDER / "__init__.py").read_text()).body
        self.assertEqual([node for node in body if not isinstance(node, ast.Expr)], [])


class Imports(unittest.TestCase):
    def test_from_the_file_that_defines_the_name(self):
        defined = {}
        for path, tree in TREES:
            names = [node.name for node in tree.body if isinstance(node, (ast.FunctionDef, ast.ClassDef))]
            names += [node.targets[0].id for node in tree.body if isinstance(node, ast.Assign)]
            self.assertEqual(len(names), len(set(names)), path)
            defined["queuedparts." + path.stem] = names
        for place, node in nodes(ast.ImportFrom):
            self.assertEqual(node.level, 0, place)
            for alias in node.names:
                self.assertIn(alias.name, defined[node.module], place)
                self.assertIsNone(alias.asname, place)

    def test_no_circle(self):
        draws = {"queuedparts." + path.stem: [node.module for node in tree.body if isinstance(node, ast.ImportFrom)]
                 for path, tree in TREES}
        while draws:
            free = [name for name, drawn in draws.items() if not any(other in draws for other in drawn)]
            self.assertTrue(free, draws)
            draws = {name: drawn for name, drawn in draws.items() if name not in free}

    def test_every_import_is_used(self):
        for path, tree in TREES:
            used = {node.id for node in ast.walk(tree) if isinstance(node, ast.Name)}
            for node in tree.body:
                if isinstance(node, ast.ImportFrom):
                    self.assertEqual([alias.name for alias in node.names if alias.name not in used], [], path)


class Language(unittest.TestCase):
    def test_statements_and_expressions(self):
        for place, node in nodes(ast.stmt):
            self.assertIsInstance(node, STATEMENTS, place)
        for place, node in nodes(ast.expr):
            self.assertIsInstance(node, EXPRESSIONS, place)
        for place, node in nodes(ast.Expr):
            self.assertIsInstance(node.value, (ast.Call, ast.Constant), place)
        for place, node in nodes(ast.For, ast.While):
            self.assertEqual(node.orelse, [], place)
        for place, node in nodes(ast.Try):
            self.assertEqual(node.finalbody, [], place)
        for place, node in nodes(ast.Assign):
            self.assertEqual(len(node.targets), 1, place)
            self.assertNotIsInstance(node.targets[0], (ast.Tuple, ast.List), place)
        for place, node in nodes(ast.ListComp):
            self.assertEqual(len(node.generators), 1, place)
            self.assertLessEqual(len(node.generators[0].ifs), 1, place)

    def test_constants(self):
        for place, node in nodes(ast.Constant):
            self.assertIsInstance(node.value, (int, str, type(None)), place)
            if isinstance(node.value, str):
                self.assertNotIn("%", node.value, place)
        for place, node in nodes(ast.Div, ast.MatMult, ast.Pow):
            self.fail(place)
        for place, node in nodes(ast.Compare):
            for sign, right in zip(node.ops, node.comparators):
                if isinstance(sign, (ast.Is, ast.IsNot)):
                    self.assertIn(ast.unparse(right), ("None", "True", "False"), place)

    def test_the_top_of_a_module(self):
        for path, tree in TREES:
            self.assertIsNotNone(ast.get_docstring(tree), path)
            for node in tree.body[1:]:
                self.assertIsInstance(node, (ast.ImportFrom, ast.FunctionDef, ast.ClassDef, ast.Assign), path)
                if isinstance(node, ast.Assign):
                    ast.literal_eval(node.value)

    def test_functions(self):
        for place, node in nodes(ast.FunctionDef, ast.Lambda):
            given = node.args
            self.assertEqual((given.vararg, given.kwarg, given.kwonlyargs, given.posonlyargs), (None, None, [], []), place)
            self.assertEqual([one for one in given.args if one.annotation], [], place)
        for place, node in nodes(ast.FunctionDef, ast.ClassDef):
            self.assertEqual(node.decorator_list, [], place)

    def test_classes(self):
        for place, node in nodes(ast.ClassDef):
            self.assertLessEqual(len(node.bases), 1, place)
            for item in node.body:
                self.assertIsInstance(item, (ast.FunctionDef, ast.Expr), place)
                if isinstance(item, ast.FunctionDef) and item.name.startswith("_"):
                    self.assertEqual(item.name, "__init__", place)
        self.assertEqual(own_methods() & own_values(), set())
        self.assertEqual((own_methods() - {"__init__"}) & (TAKEN - set(METHODS) - {"add", "discard"}), set())
        self.assertEqual(own_values() & (TAKEN - set(OWN_VALUES)), set())

    def test_names(self):
        for path, tree in TREES:
            tops = {node.name for node in tree.body if isinstance(node, ast.ClassDef)}
            for node in tree.body:
                tops |= {alias.name for alias in node.names} if isinstance(node, ast.ImportFrom) else set()
            bound = [node.id for node in ast.walk(tree) if isinstance(node, ast.Name) and isinstance(node.ctx, ast.Store)]
            bound += [node.arg for node in ast.walk(tree) if isinstance(node, ast.arg)]
            bound += [node.name for node in ast.walk(tree) if isinstance(node, ast.ExceptHandler) and node.name]
            for name in bound:
                self.assertNotIn(name, tops, path)
                self.assertNotIn(name, dir(builtins), path)
                self.assertRegex(name, r"^[A-Za-z][A-Za-z0-9_]*$", path)
            for node in ast.walk(tree):
                if isinstance(node, ast.Name) and node.id in dir(builtins):
                    self.assertIn(node.id, CALLED + ERRORS, path)

    def test_calls(self):
        own = own_methods()
        for place, node in nodes(ast.Call):
            if isinstance(node.func, ast.Attribute):
                self.assertIn(node.func.attr, own | set(METHODS), place)
                self.assertEqual(node.keywords, [], place)
            elif node.func.id in CALLED:
                allowed = {"sorted": ("key", "reverse"), "min": ("key", "default"), "max": ("key", "default"),
                           "sum": ("start",), "enumerate": ("start",), "zip": ("strict",)}
                for keyword in node.keywords:
                    self.assertIn(keyword.arg, allowed.get(node.func.id, ()), place)
        for place, node in nodes(ast.Attribute):
            if isinstance(node.ctx, ast.Load):
                self.assertIn(node.attr, own | set(METHODS) | own_values(), place)

    def test_walked_on_the_spot(self):
        for path, tree in TREES:
            above = parents(tree)
            for node in ast.walk(tree):
                if not isinstance(node, ast.Call):
                    continue
                if ast.unparse(node.func) not in WALKED and getattr(node.func, "attr", "") not in ("items", "keys", "values"):
                    continue
                outer = above[node]
                walked = isinstance(outer, (ast.For, ast.comprehension)) and outer.iter is node
                handed = isinstance(outer, ast.Call) and outer.args[0] is node and ast.unparse(outer.func) in WALKERS
                self.assertTrue(walked or handed, f"{path.name}:{node.lineno}")

    def test_what_a_loop_walks_is_not_changed(self):
        for place, node in nodes(ast.For):
            walked = {ast.unparse(one) for one in ast.walk(node.iter) if isinstance(one, (ast.Name, ast.Attribute))}
            for inner in [one for row in node.body for one in ast.walk(row)]:
                if isinstance(inner, ast.Call) and isinstance(inner.func, ast.Attribute):
                    changes = inner.func.attr in ("append", "clear", "extend", "insert", "pop", "remove", "reverse",
                                                  "setdefault", "update")
                    self.assertFalse(changes and ast.unparse(inner.func.value) in walked, place)
                if isinstance(inner, ast.Subscript) and isinstance(inner.ctx, ast.Store):
                    self.assertNotIn(ast.unparse(inner.value), walked, place)

    def test_errors(self):
        own = {node.name for place, node in nodes(ast.ClassDef) if node.bases}
        for place, node in nodes(ast.ExceptHandler):
            self.assertIn(ast.unparse(node.type), own | {"KeyError", "ZeroDivisionError", "StopIteration"}, place)
        for place, node in nodes(ast.Raise):
            self.assertIsInstance(node.exc, ast.Call, place)

    def test_no_sets(self):
        for place, node in nodes(ast.Name):
            self.assertNotIn(node.id, ("set", "frozenset", "chr"), place)


if __name__ == "__main__":
    unittest.main()
