"""The form of the package's own files: those rules of the language that can be seen in the written code."""

import ast
import builtins
import re
import unittest
from pathlib import Path

PACKAGE = Path(__file__).resolve().parent.parent / "strikesquare"
FILES = {path.stem: path.read_text(encoding="utf-8") for path in sorted(PACKAGE.glob("*.py"))}
TREES = {name: ast.parse(text) for name, text in FILES.items()}

ALLOWED_BUILTINS = set("""len range enumerate zip min max sum abs sorted reversed int str bool list tuple dict set
    frozenset isinstance ord repr any all divmod""".split())
OWN_METHODS_OF_PYTHON = set("""append clear copy count endswith extend find get index insert isalnum isalpha isdigit
    islower isspace isupper items join keys ljust lower lstrip partition pop remove replace reverse rfind rjust
    rpartition rsplit rstrip setdefault split splitlines startswith strip update upper values zfill
    bit_length""".split())
STATEMENTS = (ast.Module, ast.FunctionDef, ast.ClassDef, ast.ImportFrom, ast.Assign, ast.AugAssign, ast.If, ast.While,
              ast.For, ast.Return, ast.Break, ast.Continue, ast.Pass, ast.Raise, ast.Try, ast.ExceptHandler, ast.Expr)
EXPRESSIONS = (ast.BoolOp, ast.BinOp, ast.UnaryOp, ast.IfExp, ast.Dict, ast.ListComp, ast.Compare, ast.Call,
               ast.Constant, ast.Attribute, ast.Subscript, ast.Slice, ast.Name, ast.List, ast.Tuple, ast.JoinedStr,
               ast.FormattedValue, ast.Lambda)
SMALL_PARTS = (ast.arguments, ast.arg, ast.keyword, ast.alias, ast.comprehension, ast.expr_context, ast.boolop,
               ast.unaryop, ast.cmpop, ast.operator)
WORDS_NOWHERE = re.compile(r"\b(type|typing|typing_extensions|enum|Enum|IntEnum|StrEnum|Flag|IntFlag|Generic|Protocol|"
                           r"ABC|ABCMeta|namedtuple|NamedTuple|TypedDict|TYPE_CHECKING|abstractmethod)\b|"
                           r"dataclass|overload|contextmanager")
NAMES_NOWHERE = set("""register mro elements open input version_info with_traceback add_note format
    format_map""".split())


def nodes(kind):
    return [(name, node) for name, tree in TREES.items() for node in ast.walk(tree) if isinstance(node, kind)]


def bound_names(tree):
    """Parameters, locals and names of the file's top."""
    names = {node.arg for node in ast.walk(tree) if isinstance(node, ast.arg)}
    names |= {node.id for node in ast.walk(tree) if isinstance(node, ast.Name) and isinstance(node.ctx, ast.Store)}
    return names


class Files(unittest.TestCase):
    def test_nothing_else_lies_in_the_package(self):
        found = {path.name for path in PACKAGE.iterdir()} - {"__pycache__"}
        self.assertEqual(found, {name + ".py" for name in FILES})
        for name in FILES:
            self.assertTrue(name == "__init__" or re.fullmatch("[a-z][a-z0-9_]*", name))
            self.assertNotIn(name, dir(builtins))

    def test_sizes_and_signs(self):
        for name, text in FILES.items():
            self.assertTrue(all(sign == "\n" or " " <= sign <= "~" for sign in text), name)
            self.assertLessEqual(len(text.splitlines()), 400, name)
            self.assertLessEqual(max(map(len, text.splitlines())), 120, name)
            self.assertIsNone(WORDS_NOWHERE.search(text), name)
        for name, node in nodes(ast.FunctionDef):
            self.assertLessEqual(node.end_lineno - node.lineno + 1, 40, (name, node.name))

    def test_top_of_each_file(self):
        for name, tree in TREES.items():
            self.assertIsNotNone(ast.get_docstring(tree), name)
            names = []
            for node in tree.body[1:]:
                self.assertIsInstance(node, (ast.ImportFrom, ast.FunctionDef, ast.ClassDef, ast.Assign), name)
                names += [target.id for target in getattr(node, "targets", [])]
                names += [alias.name for alias in getattr(node, "names", [])]
                names += [node.name] if hasattr(node, "name") else []
            self.assertEqual(len(names), len(set(names)), name)


class Imports(unittest.TestCase):
    def drawn_from(self, name):
        return [node for where, node in nodes(ast.ImportFrom) if where == name]

    def test_only_own_names_from_the_file_that_defines_them(self):
        for name in TREES:
            for node in self.drawn_from(name):
                package, at = node.module.split(".")
                self.assertEqual((package, node.level), ("strikesquare", 0))
                defined = [one.name for one in TREES[at].body if isinstance(one, (ast.FunctionDef, ast.ClassDef))]
                defined += [one.targets[0].id for one in TREES[at].body if isinstance(one, ast.Assign)]
                for alias in node.names:
                    self.assertIn(alias.name, defined)
                    self.assertIsNone(alias.asname)

    def test_no_two_files_from_one_another(self):
        waiting = {name: {node.module.split(".")[1] for node in self.drawn_from(name)} for name in TREES}
        while waiting:
            free = [name for name, others in waiting.items() if not others & set(waiting)]
            self.assertTrue(free, waiting)
            for name in free:
                waiting.pop(name)

    def test_each_is_used(self):
        for name, tree in TREES.items():
            used = {node.id for node in ast.walk(tree) if isinstance(node, ast.Name)}
            for node in self.drawn_from(name):
                self.assertLessEqual({alias.name for alias in node.names}, used, name)


class Language(unittest.TestCase):
    def test_only_these_forms(self):
        for name, node in nodes(ast.AST):
            self.assertIsInstance(node, STATEMENTS + EXPRESSIONS + SMALL_PARTS, name)
            self.assertNotIsInstance(node, (ast.Div, ast.MatMult))
        for name, node in nodes((ast.While, ast.For)):
            self.assertEqual(node.orelse, [], name)
        for name, node in nodes(ast.Assign):
            self.assertEqual(len(node.targets), 1, name)
        for name, node in nodes(ast.ListComp):
            self.assertEqual(len(node.generators), 1, name)
            self.assertLessEqual(len(node.generators[0].ifs), 1, name)
        for name, node in nodes(ast.Constant):
            self.assertIn(type(node.value), (int, str, bool, type(None)), name)

    def test_functions_and_classes(self):
        for name, node in nodes(ast.FunctionDef):
            told = node.args
            self.assertFalse(told.vararg or told.kwarg or told.kwonlyargs or told.posonlyargs or node.decorator_list)
            self.assertIsNone(node.returns)
        for name, node in nodes(ast.ClassDef):
            self.assertEqual(node.decorator_list + node.keywords + node.bases, [], name)
            for part in node.body:
                self.assertIsInstance(part, (ast.FunctionDef, ast.Expr), name)

    def test_names(self):
        for name, tree in TREES.items():
            imported = {a.name for n in ast.walk(tree) if isinstance(n, ast.ImportFrom) for a in n.names}
            classes = {n.name for n in ast.walk(tree) if isinstance(n, ast.ClassDef)}
            own = bound_names(tree)
            self.assertFalse(own & (imported | classes | set(dir(builtins)) | NAMES_NOWHERE), name)
            self.assertTrue(all(re.fullmatch("[A-Za-z][A-Za-z0-9_]*", one) for one in own), name)
            read = {n.id for n in ast.walk(tree) if isinstance(n, ast.Name) and isinstance(n.ctx, ast.Load)}
            self.assertLessEqual(read & set(dir(builtins)), ALLOWED_BUILTINS, name)

    def test_is_beside_none_alone(self):
        for name, node in nodes(ast.Compare):
            if any(isinstance(sign, (ast.Is, ast.IsNot)) for sign in node.ops):
                self.assertIn(getattr(node.comparators[0], "value", 0), (None, True, False), name)

    def test_methods_and_values(self):
        methods = {part.name for _, node in nodes(ast.ClassDef) for part in node.body
                   if isinstance(part, ast.FunctionDef)}
        values = {node.attr for _, node in nodes(ast.Attribute) if isinstance(node.ctx, ast.Store)}
        self.assertFalse(methods & values)
        python = set(dir(str) + dir(int) + dir(list) + dir(dict) + dir(set) + dir(bytes))
        self.assertFalse((methods | values) & (python - {"__init__"}))
        used = {node.attr for _, node in nodes(ast.Attribute)}
        self.assertLessEqual(used - methods - values, OWN_METHODS_OF_PYTHON)
        self.assertFalse((used | methods) & NAMES_NOWHERE)


if __name__ == "__main__":
    unittest.main()
