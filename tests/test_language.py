"""The form of the package's files, as far as it can be read off them."""

import ast
import builtins
import pathlib
import re
import unittest

PACKAGE = pathlib.Path(__file__).resolve().parent.parent / "middleone"
FILES = sorted(PACKAGE.glob("*.py"))

ALLOWED_BUILTINS = set("""
    len range enumerate zip min max sum abs sorted reversed int str bool list tuple dict set frozenset
    isinstance ord repr any all divmod Exception ValueError TypeError KeyError IndexError LookupError
    ZeroDivisionError ArithmeticError OverflowError RuntimeError NotImplementedError AttributeError
    StopIteration True False None
""".split())
ALLOWED_METHODS = set("""
    append clear copy count endswith extend find get index insert isalnum isalpha isdigit islower isspace
    isupper items join keys ljust lower lstrip partition pop remove replace reverse rfind rjust rpartition
    rsplit rstrip setdefault split splitlines startswith strip update upper values zfill bit_length
""".split())
WORDS_OUT = re.compile(
    r"\b(type|typing|typing_extensions|enum|Enum|IntEnum|StrEnum|Flag|IntFlag|Generic|Protocol|ABC|ABCMeta"
    r"|namedtuple|NamedTuple|TypedDict|TYPE_CHECKING|abstractmethod)\b|dataclass|overload|contextmanager"
)
FORMS_OUT = (
    ast.With, ast.Match, ast.Delete, ast.Global, ast.Nonlocal, ast.Assert, ast.Yield, ast.YieldFrom,
    ast.AsyncFunctionDef, ast.AsyncFor, ast.AsyncWith, ast.Await, ast.Import, ast.SetComp, ast.DictComp,
    ast.GeneratorExp, ast.NamedExpr, ast.Starred, ast.Div, ast.MatMult, ast.AnnAssign, ast.TryStar,
)
TOP_FORMS = (ast.ImportFrom, ast.FunctionDef, ast.ClassDef, ast.Assign)


def walk_all():
    for file in FILES:
        for node in ast.walk(ast.parse(file.read_text(encoding="utf-8"))):
            yield f"{file.name}:{getattr(node, 'lineno', 0)}", node


def own_methods():
    return {
        part.name for _, node in walk_all() if isinstance(node, ast.ClassDef)
        for part in node.body if isinstance(part, ast.FunctionDef)
    }


def bound_names(node):
    if isinstance(node, ast.Name) and isinstance(node.ctx, ast.Store):
        return [node.id]
    if isinstance(node, ast.arg):
        return [node.arg]
    if isinstance(node, (ast.FunctionDef, ast.ClassDef)):
        return [node.name]
    return []


def drawn_from(file):
    tree = ast.parse(file.read_text(encoding="utf-8"))
    return {node.module.split(".")[1] for node in ast.walk(tree) if isinstance(node, ast.ImportFrom)}


class Files(unittest.TestCase):
    def test_only_plain_files_lie_in_the_package(self):
        self.assertTrue((PACKAGE / "__init__.py").is_file())
        for path in PACKAGE.iterdir():
            if path.name != "__pycache__":
                self.assertRegex(path.name, r"^([a-z][a-z0-9_]*|__init__)\.py$")

    def test_signs_and_sizes(self):
        for file in FILES:
            text = file.read_bytes().decode("ascii")
            self.assertRegex(text, r"\A[ -~\n]*\Z", file.name)
            self.assertIsNone(WORDS_OUT.search(text), file.name)
            rows = text.splitlines()
            self.assertLessEqual(len(rows), 400, file.name)
            self.assertLessEqual(max(len(row) for row in rows), 120, file.name)

    def test_top_of_each_file(self):
        for file in FILES:
            tree = ast.parse(file.read_text(encoding="utf-8"))
            self.assertTrue(ast.get_docstring(tree), file.name)
            names = []
            for node in tree.body[1:]:
                self.assertIsInstance(node, TOP_FORMS, file.name)
                if isinstance(node, ast.Assign):
                    ast.literal_eval(node.value)
                names += [name for part in [node] + getattr(node, "targets", []) for name in bound_names(part)]
                names += [alias.name for alias in getattr(node, "names", [])]
            self.assertEqual(len(names), len(set(names)), file.name)

    def test_imports_are_the_packages_own_by_the_defining_file(self):
        for where, node in walk_all():
            if isinstance(node, ast.ImportFrom):
                self.assertEqual(node.level, 0, where)
                package, module = node.module.split(".")
                self.assertEqual(package, "middleone", where)
                tree = ast.parse((PACKAGE / f"{module}.py").read_text(encoding="utf-8"))
                parts = [part for top in tree.body for part in [top] + getattr(top, "targets", [])]
                defined = {name for part in parts for name in bound_names(part)}
                for alias in node.names:
                    self.assertIn(alias.name, defined, where)
                    self.assertIsNone(alias.asname, where)

    def test_no_two_files_draw_from_one_another(self):
        drawn = {file.stem: drawn_from(file) for file in FILES}
        while drawn:
            free = [name for name, modules in drawn.items() if not modules & set(drawn)]
            self.assertNotEqual(free, [], drawn)
            for name in free:
                drawn.pop(name)

    def test_no_local_is_called_like_a_class_or_an_import(self):
        for file in FILES:
            tree = ast.parse(file.read_text(encoding="utf-8"))
            taken = {node.name for node in ast.walk(tree) if isinstance(node, (ast.ClassDef, ast.alias))}
            for node in ast.walk(tree):
                if isinstance(node, (ast.Name, ast.arg)):
                    self.assertFalse(taken & set(bound_names(node)), f"{file.name}:{node.lineno}")


class Code(unittest.TestCase):
    def test_forms(self):
        for where, node in walk_all():
            self.assertNotIsInstance(node, FORMS_OUT, where)
            if isinstance(node, ast.Assign):
                self.assertEqual(len(node.targets), 1, where)
            if isinstance(node, (ast.For, ast.While)):
                self.assertEqual(node.orelse, [], where)
            if isinstance(node, ast.Try):
                self.assertEqual(node.finalbody, [], where)
            if isinstance(node, ast.Constant):
                self.assertNotIsInstance(node.value, (float, bytes, complex), where)
            if isinstance(node, ast.ListComp):
                self.assertEqual(len(node.generators), 1, where)
                self.assertLessEqual(len(node.generators[0].ifs), 1, where)

    def test_functions_and_classes(self):
        for where, node in walk_all():
            if isinstance(node, ast.FunctionDef):
                self.assertLessEqual(node.end_lineno - node.lineno + 1, 40, where)
                self.assertEqual(node.decorator_list, [], where)
                self.assertIsNone(node.args.vararg or node.args.kwarg, where)
                self.assertEqual(node.args.kwonlyargs + node.args.posonlyargs, [], where)
            if isinstance(node, ast.ClassDef):
                self.assertEqual(node.decorator_list + node.keywords, [], where)
                self.assertLessEqual(len(node.bases), 1, where)

    def test_names(self):
        for where, node in walk_all():
            for name in bound_names(node):
                self.assertFalse(name.startswith("_") and name != "__init__", (where, name))
                if not (isinstance(node, ast.FunctionDef) and name in own_methods()):
                    self.assertFalse(hasattr(builtins, name), (where, name))
            if isinstance(node, ast.Name) and hasattr(builtins, node.id):
                self.assertIn(node.id, ALLOWED_BUILTINS, where)

    def test_methods(self):
        own = own_methods()
        for where, node in walk_all():
            if isinstance(node, ast.Call) and isinstance(node.func, ast.Attribute):
                self.assertIn(node.func.attr, own | ALLOWED_METHODS, where)
            if isinstance(node, ast.Attribute) and isinstance(node.ctx, ast.Store):
                self.assertNotIn(node.attr, own, where)

    def test_is_stands_beside_none_true_and_false_alone(self):
        for where, node in walk_all():
            if isinstance(node, ast.Compare) and any(isinstance(sign, (ast.Is, ast.IsNot)) for sign in node.ops):
                beside = node.comparators[0]
                self.assertTrue(isinstance(beside, ast.Constant) and beside.value in (None, True, False), where)


if __name__ == "__main__":
    unittest.main()
