"""The package keeps to its small part of Python: what of the rules can be seen simply."""

import ast
import builtins
import pathlib
import re
import unittest

PACKAGE = pathlib.Path(__file__).resolve().parent.parent / "beamstem"
NODES = """Module FunctionDef arguments arg Expr Assign AugAssign If While For Return Break Continue Pass Call
Constant Name Load Store Attribute Subscript Slice List Tuple Dict ListComp comprehension IfExp BoolOp And Or
UnaryOp Not USub BinOp Add Sub Mult FloorDiv Mod Compare Eq NotEq Lt LtE Gt GtE In NotIn keyword""".split()
BUILTINS = """len range enumerate zip min max sum abs sorted reversed int str bool list tuple dict set frozenset
isinstance ord repr any all divmod""".split()
METHODS = """append clear copy count endswith extend find get index insert items join keys pop remove replace reverse
setdefault split startswith strip update values""".split()
WORDS = """type typing typing_extensions enum Enum IntEnum StrEnum Flag IntFlag Generic Protocol ABC ABCMeta namedtuple
NamedTuple TypedDict TYPE_CHECKING abstractmethod""".split()


def sources():
    return sorted(PACKAGE.glob("*.py"))


def trees():
    return [(path.name, ast.parse(path.read_text("utf-8"))) for path in sources()]


def nodes():
    return [(name, node) for name, tree in trees() for node in ast.walk(tree)]


class Language(unittest.TestCase):

    def test_files(self):
        names = {path.name for path in PACKAGE.iterdir()} - {"__pycache__"}
        self.assertEqual(names, {"__init__.py", "beams.py"})

    def test_signs_and_sizes(self):
        for path in sources():
            text = path.read_text("utf-8")
            self.assertIsNone(re.search(r"[^ -~\n]", text), path.name)
            lines = text.split("\n")
            self.assertLessEqual(len(lines), 400)
            self.assertLessEqual(max(len(line) for line in lines), 120)

    def test_words(self):
        for path in sources():
            words = re.findall(r"\w+", path.read_text("utf-8"))
            self.assertEqual([word for word in words if word in WORDS], [])

    def test_only_plain_parts(self):
        for name, node in nodes():
            self.assertIn(node.__class__.__name__, NODES, (name, getattr(node, "lineno", 0)))

    def test_functions(self):
        for name, node in nodes():
            if isinstance(node, ast.FunctionDef):
                self.assertLessEqual(node.end_lineno - node.lineno + 1, 40, node.name)
                self.assertEqual(node.decorator_list, [])
                self.assertIsNone(node.args.vararg or node.args.kwarg)
                self.assertEqual(node.args.kwonlyargs + node.args.posonlyargs, [])

    def test_names(self):
        own = dir(builtins)
        for name, node in nodes():
            bound = None
            if isinstance(node, (ast.FunctionDef, ast.arg)):
                bound = node.name if isinstance(node, ast.FunctionDef) else node.arg
            elif isinstance(node, ast.Name):
                if isinstance(node.ctx, ast.Store):
                    bound = node.id
                elif node.id in own:
                    self.assertIn(node.id, BUILTINS)
            if bound is not None:
                self.assertRegex(bound, r"\A[A-Za-z][A-Za-z0-9_]*\Z")
                self.assertNotIn(bound, own)

    def test_methods(self):
        for name, node in nodes():
            if isinstance(node, ast.Attribute):
                self.assertIn(node.attr, METHODS)

    def test_each_name_once_at_the_top(self):
        for name, tree in trees():
            bound = []
            for node in tree.body:
                if isinstance(node, ast.FunctionDef):
                    bound.append(node.name)
                elif isinstance(node, ast.Assign):
                    self.assertEqual(len(node.targets), 1)
                    bound.append(node.targets[0].id)
                    ast.literal_eval(node.value)
                else:
                    self.assertIsInstance(ast.literal_eval(node.value), str)
            self.assertEqual(len(bound), len(set(bound)))


if __name__ == "__main__":
    unittest.main()
