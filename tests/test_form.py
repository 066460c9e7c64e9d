"""The form of the package's files: those rules of LANGUAGE.md that a reading of the code can hold up plainly."""

import ast
import builtins
import pathlib
import re
import unittest
import warnings

PACKAGE = pathlib.Path(__file__).resolve().parent.parent / "chipbus"
BUILTINS = set("""len range enumerate zip min max sum abs sorted reversed int str bool bytes list tuple dict set
    frozenset isinstance ord repr any all divmod Exception ValueError TypeError KeyError IndexError LookupError
    ZeroDivisionError ArithmeticError OverflowError RuntimeError NotImplementedError AttributeError
    StopIteration""".split())
BARRED_NODES = (ast.With, ast.AsyncWith, ast.AsyncFor, ast.AsyncFunctionDef, ast.Await, ast.Match, ast.Global,
                ast.Nonlocal, ast.Yield, ast.YieldFrom, ast.GeneratorExp, ast.NamedExpr, ast.Import, ast.Div,
                ast.MatMult)
BARRED_WORDS = re.compile(r"\b(type|typing|typing_extensions|enum|Enum|IntEnum|StrEnum|Flag|IntFlag|Generic|Protocol|"
                          r"ABC|ABCMeta|namedtuple|NamedTuple|TypedDict|TYPE_CHECKING|abstractmethod)\b"
                          r"|dataclass|overload|contextmanager")
METHODS = set("""append clear copy count endswith extend find get index insert isalnum isalpha isdigit islower isspace
    isupper items join keys ljust lower lstrip partition pop remove replace reverse rfind rjust rpartition rsplit
    rstrip setdefault split splitlines startswith strip update upper values zfill bit_length add discard sort
    __init__""".split())
DUNDERS = {"__init__", "__eq__", "__repr__", "__str__", "__len__"}


def sources():
    return [(path, path.read_text(encoding="utf-8")) for path in sorted(PACKAGE.glob("*.py"))]


def nodes(kinds):
    """Each node of these kinds, with where it stands."""
    return [(f"{path.name}:{getattr(node, 'lineno', 0)}", node)
            for path, text in sources() for node in ast.walk(ast.parse(text)) if isinstance(node, kinds)]


def bound_names(tree):
    names = set()
    for node in ast.walk(tree):
        if isinstance(node, (ast.FunctionDef, ast.ClassDef)):
            names.add(node.name)
        elif isinstance(node, ast.arg):
            names.add(node.arg)
        elif isinstance(node, ast.Name) and isinstance(node.ctx, ast.Store):
            names.add(node.id)
        elif isinstance(node, ast.alias):
            names.add(node.asname or node.name)
        elif isinstance(node, ast.ExceptHandler) and node.name:
            names.add(node.name)
    return names


def class_spots(node):
    """The parts of a node in which a class may stand: what is called, bases, isinstance's second, except."""
    if isinstance(node, ast.Call):
        asks = isinstance(node.func, ast.Name) and node.func.id == "isinstance"
        return [node.func] + (node.args[1:] if asks else [])
    if isinstance(node, ast.ClassDef):
        return node.bases
    return [node.type] if isinstance(node, ast.ExceptHandler) else []


class TestForm(unittest.TestCase):
    def test_l1_the_folder_holds_plain_files_alone(self):
        for path in PACKAGE.iterdir():
            if path.name != "__pycache__":
                self.assertRegex(path.name, r"^([a-z][a-z0-9_]*|__init__|__main__)\.py$")

    def test_l2_l16_imports_name_the_file_that_defines(self):
        for where, node in nodes(ast.ImportFrom):
            self.assertEqual(node.level, 0, where)
            self.assertRegex(node.module, r"^chipbus\.[a-z]+$", where)
            named = ast.parse((PACKAGE / f"{node.module.split('.')[1]}.py").read_text(encoding="utf-8"))
            defined = {stmt.name for stmt in named.body if isinstance(stmt, (ast.FunctionDef, ast.ClassDef))}
            defined |= {target.id for stmt in named.body if isinstance(stmt, ast.Assign) for target in stmt.targets}
            for alias in node.names:
                self.assertIn(alias.name, defined, where)

    def test_l4_parameters_are_plain(self):
        for where, node in nodes((ast.FunctionDef, ast.Lambda)):
            self.assertIsNone(node.args.vararg, where)
            self.assertIsNone(node.args.kwarg, where)
            self.assertEqual(node.args.posonlyargs, [], where)
            self.assertEqual(getattr(node, "decorator_list", []), [], where)

    def test_l5_classes(self):
        for where, node in nodes(ast.ClassDef):
            self.assertLessEqual(len(node.bases), 1, where)
            for stmt in node.body:
                docstring = isinstance(stmt, ast.Expr) and isinstance(stmt.value, ast.Constant)
                self.assertTrue(docstring or isinstance(stmt, ast.FunctionDef), where)
                if isinstance(stmt, ast.FunctionDef) and stmt.name.startswith("__"):
                    self.assertIn(stmt.name, DUNDERS, where)

    def test_l6_l7_barred_statements_and_expressions(self):
        self.assertEqual([where for where, node in nodes(BARRED_NODES)], [])
        for where, node in nodes((ast.For, ast.While)):
            self.assertEqual(node.orelse, [], where)
        for where, node in nodes(ast.Constant):
            self.assertNotIsInstance(node.value, (float, complex), where)
        for where, node in nodes(ast.FormattedValue):
            self.assertIsNone(node.format_spec, where)

    def test_l8_builtins(self):
        for path, text in sources():
            tree = ast.parse(text)
            bound = bound_names(tree)
            self.assertEqual(sorted(bound & set(dir(builtins))), [], path.name)
            used = {node.id for node in ast.walk(tree) if isinstance(node, ast.Name)}
            self.assertEqual(sorted(used - bound - BUILTINS), [], path.name)

    def test_l10_sizes(self):
        for path, text in sources():
            lines = text.split("\n")
            self.assertLessEqual(len(lines), 400, path.name)
            self.assertLessEqual(max(len(line) for line in lines), 120, path.name)
        for where, node in nodes(ast.FunctionDef):
            self.assertLessEqual(node.end_lineno - node.lineno + 1, 40, where)

    def test_l12_plain_names(self):
        for path, text in sources():
            for name in bound_names(ast.parse(text)) - DUNDERS:
                self.assertRegex(name, r"^[A-Za-z][A-Za-z0-9_]*$", path.name)

    def test_l14_characters(self):
        for path, text in sources():
            self.assertRegex(text, r"\A[\n -~]*\Z", path.name)

    def test_l15_no_local_name_is_a_class_or_an_import(self):
        for path, text in sources():
            tree = ast.parse(text)
            taken = {node.name for node in tree.body if isinstance(node, ast.ClassDef)}
            taken |= {alias.asname or alias.name for node in ast.walk(tree) if isinstance(node, ast.ImportFrom)
                      for alias in node.names}
            for node in ast.walk(tree):
                if isinstance(node, ast.arg):
                    self.assertNotIn(node.arg, taken, path.name)
                elif isinstance(node, ast.Name) and isinstance(node.ctx, ast.Store):
                    self.assertNotIn(node.id, taken, path.name)

    def test_l16_no_two_files_import_from_each_other(self):
        wanted = {path.stem: {node.module.split(".")[1] for node in ast.walk(ast.parse(text))
                              if isinstance(node, ast.ImportFrom)} for path, text in sources()}
        while wanted:
            ready = [stem for stem, others in wanted.items() if not others & set(wanted)]
            self.assertNotEqual(ready, [], sorted(wanted))
            for stem in ready:
                del wanted[stem]

    def test_l17_barred_words(self):
        for path, text in sources():
            self.assertIsNone(BARRED_WORDS.search(text), path.name)

    def test_l18_no_name_is_both_method_and_attribute(self):
        methods = {stmt.name for where, node in nodes(ast.ClassDef) for stmt in node.body
                   if isinstance(stmt, ast.FunctionDef)}
        attributes = {node.attr for where, node in nodes(ast.Attribute) if isinstance(node.ctx, ast.Store)}
        self.assertEqual(methods & attributes, set())
        for where, node in nodes(ast.Attribute):
            self.assertIn(node.attr, methods | attributes | METHODS, where)

    def test_l18_classes_are_not_passed_on(self):
        classes = {node.name for where, node in nodes(ast.ClassDef)}
        for path, text in sources():
            tree = ast.parse(text)
            allowed = {id(part) for node in ast.walk(tree) for spot in class_spots(node) for part in ast.walk(spot)}
            for node in ast.walk(tree):
                if isinstance(node, ast.Name) and node.id in classes:
                    self.assertIn(id(node), allowed, f"{path.name}:{node.lineno}")

    def test_l20_is(self):
        for where, node in nodes(ast.Compare):
            for op, right in zip(node.ops, node.comparators):
                if isinstance(op, (ast.Is, ast.IsNot)):
                    self.assertIsInstance(right, ast.Constant, where)
                    self.assertTrue(right.value in (None, True, False), where)

    def test_l27_numbers_and_strings(self):
        for where, node in nodes(ast.BinOp):
            if isinstance(node.op, ast.Pow):
                self.assertIsInstance(node.right, ast.Constant, where)
        for where, node in nodes(ast.Constant):
            if isinstance(node.value, str):
                self.assertNotIn("%", node.value, where)

    def test_l27_python_gives_no_warning(self):
        for path, text in sources():
            with warnings.catch_warnings():
                warnings.simplefilter("error")
                compile(text, str(path), "exec")

    def test_l28_double_underscore_methods(self):
        for where, node in nodes(ast.FunctionDef):
            if node.name == "__init__":
                self.assertFalse([part for part in ast.walk(node) if isinstance(part, ast.Return)], where)
            elif node.name in DUNDERS:
                self.assertIsInstance(node.body[-1], ast.Return, where)
                for part in ast.walk(node):
                    self.assertNotIsInstance(part, (ast.Assign, ast.AugAssign, ast.Delete), where)
                    if isinstance(part, ast.Return) and node.name == "__len__":
                        self.assertRegex(ast.unparse(part.value), r"^(len\(.*\)|\d+)$", where)


if __name__ == "__main__":
    unittest.main()
