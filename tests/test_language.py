"""The part of Python that the package keeps to: what of its rules can be seen in the files themselves."""

import ast
import builtins
import pathlib
import re
import unittest

PACKAGE = pathlib.Path(__file__).resolve().parent.parent / "airmornings"

STATEMENTS = (ast.Assign, ast.AugAssign, ast.If, ast.While, ast.For, ast.Return, ast.Break, ast.Continue, ast.Pass,
              ast.Raise, ast.Try, ast.Expr, ast.FunctionDef, ast.ClassDef, ast.ImportFrom)
EXPRESSIONS = (ast.BoolOp, ast.BinOp, ast.UnaryOp, ast.Lambda, ast.IfExp, ast.Dict, ast.ListComp, ast.Compare,
               ast.Call, ast.JoinedStr, ast.FormattedValue, ast.Constant, ast.Attribute, ast.Subscript, ast.Name,
               ast.List, ast.Tuple, ast.Slice)
NAMES = """len range enumerate zip min max sum abs sorted reversed int str bool list tuple dict set frozenset isinstance
ord repr any all divmod Exception ValueError TypeError KeyError IndexError LookupError ZeroDivisionError
ArithmeticError OverflowError RuntimeError NotImplementedError StopIteration""".split()
METHODS = """append clear copy count endswith extend find get index insert isalnum isalpha isdigit islower isspace
isupper items join keys ljust lower lstrip partition pop remove replace reverse rfind rjust rpartition rsplit rstrip setdefault
split splitlines startswith strip update upper values zfill bit_length""".split()
UNUSED = """register mro elements open input version_info with_traceback add_note attrgetter breakpoint builtins compile
copyright credits delattr dir eval exec exit gc getattr globals hasattr help id importlib license locals methodcaller os
quit setattr super type vars sys""".split()
WORDS = """type typing typing_extensions enum Enum IntEnum StrEnum Flag IntFlag Generic Protocol ABC ABCMeta namedtuple
NamedTuple TypedDict TYPE_CHECKING abstractmethod""".split()
WALKED = ("range", "zip", "enumerate", "reversed")
WALKERS = ("list", "tuple", "dict", "sorted", "sum", "any", "all", "enumerate", "zip", "min", "max")


def files():
    return sorted(path for path in PACKAGE.rglob("*") if "__pycache__" not in path.parts)


def trees():
    return [(path, ast.parse(path.read_text(encoding="utf-8"))) for path in files() if path.suffix == ".py"]


def nodes(kinds):
    return [(path, node) for path, tree in trees() for node in ast.walk(tree) if isinstance(node, kinds)]


def is_plain(node):
    if isinstance(node, (ast.List, ast.Tuple)):
        return all(is_plain(part) for part in node.elts)
    if isinstance(node, ast.Dict):
        return all(is_plain(part) for part in node.keys + node.values)
    if isinstance(node, ast.UnaryOp):
        return isinstance(node.op, ast.USub) and is_plain(node.operand)
    return isinstance(node, (ast.Constant, ast.Name))


class Files(unittest.TestCase):

    def test_names(self):
        self.assertIn("__init__.py", [path.name for path in files()])
        for path in files():
            self.assertRegex(path.name, r"^([a-z][a-z0-9_]*|__init__)\.py$")
            self.assertNotIn(path.stem, dir(builtins))
            self.assertFalse(path.stem.startswith("test"))

    def test_signs_and_sizes(self):
        for path in files():
            text = path.read_text(encoding="utf-8")
            self.assertRegex(text, r"\A[ -~\n]*\Z", path.name)
            lines = text.split("\n")
            self.assertLessEqual(len(lines), 400, path.name)
            self.assertLessEqual(max(len(line) for line in lines), 120, path.name)

    def test_words_that_stand_nowhere(self):
        for path in files():
            text = path.read_text(encoding="utf-8")
            self.assertEqual([], [word for word in WORDS if re.search(rf"\b{word}\b", text)], path.name)
            self.assertIsNone(re.search("dataclass|overload|contextmanager", text), path.name)


class Tops(unittest.TestCase):

    def test_what_stands_at_the_top(self):
        for path, tree in trees():
            bound = []
            for at, node in enumerate(tree.body):
                if at == 0:
                    self.assertIsNotNone(ast.get_docstring(tree), path.name)
                    continue
                self.assertIsInstance(node, (ast.ImportFrom, ast.Assign, ast.FunctionDef, ast.ClassDef), path.name)
                if isinstance(node, ast.Assign):
                    self.assertTrue(is_plain(node.value), path.name)
                    bound.append(node.targets[0].id)
                elif isinstance(node, ast.ImportFrom):
                    bound.extend(name.name for name in node.names)
                else:
                    bound.append(node.name)
            self.assertEqual(len(bound), len(set(bound)), path.name)

    def test_imports_are_of_the_very_file_that_defines_the_name(self):
        tops = {f"airmornings.{path.stem}": tree for path, tree in trees()}
        for path, node in nodes((ast.Import, ast.ImportFrom)):
            self.assertIsInstance(node, ast.ImportFrom)
            self.assertEqual(0, node.level)
            self.assertIn(node.module, tops)
            body = tops[node.module].body
            defined = [each.name for each in body if isinstance(each, (ast.FunctionDef, ast.ClassDef))]
            defined += [each.targets[0].id for each in body if isinstance(each, ast.Assign)]
            for name in node.names:
                self.assertIsNone(name.asname)
                self.assertIn(name.name, defined, path.name)

    def test_no_two_files_draw_from_one_another(self):
        drawn = {path.stem: set() for path, _ in trees()}
        for path, node in nodes(ast.ImportFrom):
            drawn[path.stem].add(node.module.split(".")[-1])
        self.assertEqual(set(), drawn["__init__"])
        while drawn:
            free = [name for name, others in drawn.items() if not others & set(drawn)]
            self.assertNotEqual([], free)
            for name in free:
                drawn.pop(name)


class Code(unittest.TestCase):

    def test_statements_and_expressions(self):
        for path, node in nodes((ast.stmt, ast.expr)):
            self.assertIsInstance(node, STATEMENTS + EXPRESSIONS, f"{path.name}:{node.lineno}")

    def test_an_expression_by_itself_is_a_call(self):
        for path, tree in trees():
            for node in ast.walk(tree):
                if isinstance(node, ast.Expr) and node != tree.body[0]:
                    self.assertIsInstance(node.value, ast.Call, f"{path.name}:{node.lineno}")

    def test_assignments_have_one_target(self):
        for path, node in nodes(ast.Assign):
            self.assertEqual(1, len(node.targets))
            self.assertNotIsInstance(node.targets[0], (ast.Tuple, ast.List), f"{path.name}:{node.lineno}")

    def test_loops_and_comprehensions(self):
        for _, node in nodes((ast.For, ast.While)):
            self.assertEqual([], node.orelse)
        for _, node in nodes(ast.ListComp):
            self.assertEqual(1, len(node.generators))
            self.assertLessEqual(len(node.generators[0].ifs), 1)

    def test_defs_are_plain_and_short(self):
        for path, node in nodes(ast.FunctionDef):
            self.assertEqual([], node.decorator_list)
            self.assertIsNone(node.args.vararg or node.args.kwarg or node.returns)
            self.assertEqual([], node.args.kwonlyargs + node.args.posonlyargs)
            self.assertLessEqual(node.end_lineno - node.lineno + 1, 40, f"{path.name}:{node.lineno}")

    def test_classes_are_plain(self):
        for _, node in nodes(ast.ClassDef):
            self.assertEqual([], node.decorator_list + node.keywords)
            self.assertLessEqual(len(node.bases), 1)
            self.assertEqual(len(node.body), len({each.name for each in node.body}))

    def test_no_fractions_and_no_bytes(self):
        for path, node in nodes(ast.Constant):
            self.assertIsInstance(node.value, (bool, int, str, type(None)), f"{path.name}:{node.lineno}")
        for path, node in nodes((ast.Div, ast.MatMult)):
            self.fail(f"{path.name}: {node}")

    def test_is_stands_beside_none(self):
        for path, node in nodes(ast.Compare):
            if isinstance(node.ops[0], (ast.Is, ast.IsNot)):
                self.assertIsInstance(node.comparators[0], ast.Constant, f"{path.name}:{node.lineno}")

    def test_what_is_walked_is_walked_at_once(self):
        for path, tree in trees():
            above = {part: node for node in ast.walk(tree) for part in ast.iter_child_nodes(node)}
            for node in ast.walk(tree):
                if isinstance(node, ast.Call) and isinstance(node.func, ast.Name) and node.func.id in WALKED:
                    upper = above[node]
                    walked = isinstance(upper, (ast.For, ast.comprehension)) and upper.iter is node
                    walked = walked or isinstance(upper, ast.Call) and upper.func.id in WALKERS
                    self.assertTrue(walked, f"{path.name}:{node.lineno}")


class Names(unittest.TestCase):

    def test_pythons_own_names(self):
        for path, node in nodes(ast.Name):
            if node.id in dir(builtins):
                self.assertIn(node.id, NAMES, f"{path.name}:{node.lineno}")
                self.assertIsInstance(node.ctx, ast.Load, f"{path.name}:{node.lineno}")

    def test_names_are_plain(self):
        named = [node.id for _, node in nodes(ast.Name)] + [node.arg for _, node in nodes(ast.arg)]
        named += [node.name for _, node in nodes((ast.FunctionDef, ast.ClassDef)) if node.name != "__init__"]
        named += [node.attr for _, node in nodes(ast.Attribute)]
        for name in named:
            self.assertRegex(name, r"^[A-Za-z][A-Za-z0-9_]*$")
            self.assertNotIn(name, UNUSED)

    def test_no_parameter_is_called_like_pythons_own_or_a_class_of_its_file(self):
        for path, tree in trees():
            taken = dir(builtins) + [node.name for node in tree.body if isinstance(node, ast.ClassDef)]
            for node in ast.walk(tree):
                if isinstance(node, ast.ImportFrom):
                    taken += [name.name for name in node.names]
            for node in ast.walk(tree):
                if isinstance(node, ast.arg):
                    self.assertNotIn(node.arg, taken, f"{path.name}:{node.lineno}")
                if isinstance(node, ast.Name) and isinstance(node.ctx, ast.Store):
                    self.assertNotIn(node.id, taken, f"{path.name}:{node.lineno}")

    def test_methods_and_values_have_names_of_their_own(self):
        methods = {each.name for _, node in nodes(ast.ClassDef) for each in node.body}
        values = {node.attr for _, node in nodes(ast.Attribute) if isinstance(node.ctx, ast.Store)}
        self.assertEqual(set(), methods & values)
        pythons = {name for kind in (str, int, list, dict, set, bytes) for name in dir(kind)} - {"__init__"}
        self.assertEqual(set(), (methods | values) & pythons)
        for path, node in nodes(ast.Attribute):
            self.assertIn(node.attr, methods | values | set(METHODS), f"{path.name}:{node.lineno}")
