"""The form of the code: what of LANGUAGE.md a walk over the package's files can see."""

import ast
import builtins
import pathlib
import re
import unittest

FOLDER = pathlib.Path(__file__).resolve().parent.parent / "soundpages"
FILES = sorted(FOLDER.glob("*.py"))

STATEMENTS = (
    ast.Module, ast.FunctionDef, ast.ClassDef, ast.arguments, ast.arg, ast.ImportFrom, ast.alias, ast.Assign,
    ast.AugAssign,
    ast.If, ast.While, ast.For, ast.Return, ast.Break, ast.Continue, ast.Pass, ast.Expr,
)
EXPRESSIONS = (
    ast.Constant, ast.List, ast.Tuple, ast.Dict, ast.BinOp, ast.UnaryOp, ast.BoolOp, ast.Compare, ast.IfExp, ast.Call,
    ast.Attribute, ast.Subscript, ast.Slice, ast.ListComp, ast.comprehension, ast.Name, ast.Load, ast.Store,
    ast.Add, ast.Sub, ast.Mult, ast.FloorDiv, ast.Mod, ast.USub, ast.Not, ast.And, ast.Or, ast.cmpop,
)
BUILTINS = """
    len range enumerate zip min max sum abs sorted reversed int str bool list tuple dict set isinstance ord
    repr any all divmod
""".split()
METHODS = """
    append clear copy count endswith extend find get index insert isalnum isalpha isdigit islower isspace
    isupper items join keys ljust lower lstrip partition pop remove replace reverse rfind rjust rpartition
    rsplit rstrip setdefault split splitlines startswith strip update upper values zfill bit_length
""".split()
WORDS = """
    type typing typing_extensions enum Enum IntEnum StrEnum Flag IntFlag Generic Protocol ABC ABCMeta
    namedtuple NamedTuple TypedDict TYPE_CHECKING abstractmethod
""".split()
UNUSED = """
    register mro elements open input version_info with_traceback add_note format format_map sort args encode
""".split()
OF_PYTHONS_VALUES = {name for kind in (str, int, list, dict, set, bytes, tuple) for name in dir(kind)}


def trees():
    return [(path, ast.parse(path.read_text("ascii"))) for path in FILES]


def nodes(kind):
    found = []
    for path, tree in trees():
        found += [(f"{path.name}:{node.lineno}", node) for node in ast.walk(tree) if isinstance(node, kind)]
    return found


def is_plain(node):
    if isinstance(node, ast.UnaryOp):
        return isinstance(node.op, ast.USub) and isinstance(node.operand, ast.Constant)
    if isinstance(node, (ast.List, ast.Tuple)):
        return all(is_plain(inner) for inner in node.elts)
    if isinstance(node, ast.Dict):
        return all(is_plain(inner) for inner in node.keys + node.values)
    return isinstance(node, ast.Constant) and isinstance(node.value, (int, str, type(None)))


def is_docstring(node):
    return isinstance(node, ast.Expr) and isinstance(node.value, ast.Constant) and isinstance(node.value.value, str)


class Language(unittest.TestCase):
    def test_files(self):
        self.assertIn(FOLDER / "__init__.py", FILES)
        for path in FOLDER.iterdir():
            if path.name != "__pycache__":
                self.assertRegex(path.name, r"\A[a-z0-9_]+\.py\Z")
                self.assertFalse(path.stem != "__init__" and hasattr(builtins, path.stem))
        for path in FILES:
            text = path.read_text("ascii")
            self.assertRegex(text, r"\A[\n -~]*\Z")
            self.assertLessEqual(len(text.splitlines()), 400)
            self.assertLessEqual(max(len(row) for row in text.splitlines()), 120)
            for word in WORDS:
                self.assertIsNone(re.search(rf"\b{word}\b", text), f"{path.name}: {word}")
            self.assertIsNone(re.search("dataclass|overload|contextmanager", text))

    def test_statements_and_expressions(self):
        for path, tree in trees():
            for node in ast.walk(tree):
                where = f"{path.name}:{getattr(node, 'lineno', 0)} {type(node).__name__}"
                self.assertIsInstance(node, STATEMENTS + EXPRESSIONS, where)

    def test_the_top(self):
        for path, tree in trees():
            self.assertTrue(is_docstring(tree.body[0]), path.name)
            names = []
            for node in tree.body[1:]:
                if isinstance(node, ast.ImportFrom):
                    names += [alias.name for alias in node.names]
                    self.assertRegex(node.module, r"\Asoundpages\.[a-z]+\Z")
                    self.assertEqual(node.level, 0)
                    self.assertTrue(all(alias.asname is None and alias.name != "*" for alias in node.names))
                elif isinstance(node, ast.Assign):
                    names.append(node.targets[0].id)
                    self.assertTrue(is_plain(node.value), f"{path.name}:{node.lineno}")
                else:
                    self.assertIsInstance(node, (ast.FunctionDef, ast.ClassDef))
                    names.append(node.name)
            self.assertEqual(len(names), len(set(names)), path.name)

    def test_imports_are_from_the_defining_file_and_go_one_way(self):
        defined = {}
        draws = {}
        for path, tree in trees():
            defined[path.stem] = {node.name for node in tree.body if isinstance(node, (ast.FunctionDef, ast.ClassDef))}
            defined[path.stem] |= {node.targets[0].id for node in tree.body if isinstance(node, ast.Assign)}
            draws[path.stem] = [node for node in tree.body if isinstance(node, ast.ImportFrom)]
        for stem, rows in draws.items():
            for row in rows:
                self.assertLessEqual({alias.name for alias in row.names}, defined[row.module.split(".")[1]])
        left = {stem: {row.module.split(".")[1] for row in rows} for stem, rows in draws.items()}
        while left:
            ready = [stem for stem, others in left.items() if not others & set(left)]
            self.assertTrue(ready, "files draw from one another")
            for stem in ready:
                del left[stem]

    def test_functions_and_classes(self):
        for where, node in nodes(ast.FunctionDef):
            self.assertLessEqual(node.end_lineno - node.lineno + 1, 40, where)
            self.assertEqual((node.decorator_list, node.args.vararg, node.args.kwarg, node.args.kwonlyargs),
                             ([], None, None, []))
            self.assertFalse(is_docstring(node.body[0]), where)
        for where, node in nodes(ast.ClassDef):
            self.assertTrue(all(isinstance(inner, ast.FunctionDef) for inner in node.body), where)
            self.assertEqual((node.bases, node.decorator_list), ([], []), where)
            names = [inner.name for inner in node.body]
            self.assertEqual(len(names), len(set(names)), where)

    def test_names(self):
        for path, tree in trees():
            tops = {alias.name for node in tree.body if isinstance(node, ast.ImportFrom) for alias in node.names}
            tops |= {node.name for node in tree.body if isinstance(node, ast.ClassDef)}
            for node in ast.walk(tree):
                bound = None
                if isinstance(node, ast.arg):
                    bound = node.arg
                elif isinstance(node, ast.Name) and isinstance(node.ctx, ast.Store):
                    bound = node.id
                if bound is not None:
                    self.assertFalse(hasattr(builtins, bound) or bound in tops, f"{path.name}:{node.lineno} {bound}")
                    self.assertNotIn(bound, UNUSED)
                    self.assertRegex(bound, r"\A[A-Za-z][A-Za-z0-9_]*\Z")
                if isinstance(node, ast.Name) and isinstance(node.ctx, ast.Load) and hasattr(builtins, node.id):
                    self.assertIn(node.id, BUILTINS, f"{path.name}:{node.lineno}")

    def test_methods_and_values(self):
        methods = {inner.name for where, node in nodes(ast.ClassDef) for inner in node.body}
        values = {node.attr for where, node in nodes(ast.Attribute) if isinstance(node.ctx, ast.Store)}
        self.assertEqual(methods & values, set())
        self.assertEqual((methods - {"__init__"}) & OF_PYTHONS_VALUES, set())
        self.assertEqual(values & OF_PYTHONS_VALUES, set())
        self.assertEqual((methods | values) & set(UNUSED), set())
        for where, node in nodes(ast.Attribute):
            self.assertIn(node.attr, methods | values | set(METHODS), where)
        for where, node in nodes(ast.Call):
            self.assertEqual(node.keywords, [], where)

    def test_single_rules(self):
        for where, node in nodes(ast.Compare):
            for sign, other in zip(node.ops, node.comparators):
                if isinstance(sign, (ast.Is, ast.IsNot)):
                    self.assertIn(getattr(other, "value", 0), (None, True, False), where)
        for where, node in nodes(ast.ListComp):
            self.assertEqual(len(node.generators), 1, where)
            self.assertLessEqual(len(node.generators[0].ifs), 1, where)
        for where, node in nodes(ast.Assign):
            self.assertEqual(len(node.targets), 1, where)
        for where, node in nodes((ast.For, ast.While)):
            self.assertEqual(node.orelse, [], where)
        for where, node in nodes(ast.Constant):
            self.assertIn(type(node.value), (int, str, bool, type(None)), where)
            self.assertNotIn("%", str(node.value), where)
        for where, node in nodes(ast.Expr):
            self.assertTrue(isinstance(node.value, ast.Call) or is_docstring(node), where)
        for where, node in nodes((ast.FunctionDef, ast.arg)):
            self.assertIsNone(node.returns if isinstance(node, ast.FunctionDef) else node.annotation, where)


if __name__ == "__main__":
    unittest.main()
