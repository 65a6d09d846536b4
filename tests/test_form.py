"""The package keeps to a small part of Python; this holds it to the rules that a look can tell."""

import ast
import builtins
import pathlib
import re
import unittest

PACKAGE = pathlib.Path(__file__).resolve().parent.parent / "notnought"

# This program is plain functions that import nothing, so less is let in than might be.
NODES = (
    ast.Module, ast.FunctionDef, ast.arguments, ast.arg, ast.Return, ast.Assign, ast.AugAssign,
    ast.For, ast.While, ast.If, ast.Expr, ast.Break, ast.Continue, ast.Pass, ast.BoolOp, ast.BinOp,
    ast.UnaryOp, ast.IfExp, ast.Dict, ast.ListComp, ast.comprehension, ast.Compare, ast.Call,
    ast.Constant, ast.Attribute, ast.Subscript, ast.Slice, ast.Name, ast.List, ast.Tuple,
    ast.expr_context, ast.boolop, ast.unaryop, ast.cmpop,
    ast.Add, ast.Sub, ast.Mult, ast.FloorDiv, ast.Mod,
)
BUILTINS = (
    "len range enumerate zip min max sum abs sorted reversed int str bool list tuple dict "
    "set isinstance any all divmod"
).split()
METHODS = "append copy count extend get index insert items keys pop remove reverse values".split()
WORDS = (
    "type typing enum Enum Flag Generic Protocol ABC namedtuple NamedTuple TypedDict "
    "abstractmethod register mro elements open input"
).split()


def sources():
    return sorted(PACKAGE.rglob("*.py"))


def is_call_of(node, name):
    return isinstance(node, ast.Call) and isinstance(node.func, ast.Name) and node.func.id == name


class Form(unittest.TestCase):
    def test_files(self):
        names = [
            path.relative_to(PACKAGE).as_posix()
            for path in PACKAGE.rglob("*")
            if "__pycache__" not in path.parts
        ]
        self.assertEqual(sorted(names), ["__init__.py", "grids.py"])

    def test_signs_words_and_sizes(self):
        for path in sources():
            text = path.read_bytes().decode("utf-8")
            self.assertRegex(text, r"\A[ -~\n]*\Z")
            for word in WORDS:
                self.assertIsNone(re.search(rf"\b{word}\b", text), (path, word))
            lines = text.splitlines()
            self.assertLessEqual(len(lines), 400, path)
            self.assertLessEqual(max(map(len, lines)), 120, path)

    def test_only_the_plain_part_of_the_language(self):
        for path in sources():
            for node in ast.walk(ast.parse(path.read_text())):
                where = (path.name, getattr(node, "lineno", 0))
                self.assertIsInstance(node, NODES, where)
                self.check_node(node, where)

    def check_node(self, node, where):
        if isinstance(node, ast.FunctionDef):
            self.assertLessEqual(node.end_lineno - node.lineno + 1, 40, where)
            self.assertEqual(node.decorator_list, [], where)
            self.assertIsNone(node.args.vararg or node.args.kwarg, where)
            self.assertNotIn(node.name, dir(builtins), where)
        elif isinstance(node, ast.Name):
            self.assertFalse(node.id.startswith("_"), where)
            if hasattr(builtins, node.id):
                self.assertIn(node.id, BUILTINS, where)
                self.assertIsInstance(node.ctx, ast.Load, where)
        elif isinstance(node, ast.arg):
            self.assertFalse(hasattr(builtins, node.arg), where)
            self.assertIsNone(node.annotation, where)
        elif isinstance(node, ast.Attribute):
            self.assertIn(node.attr, METHODS, where)
        elif isinstance(node, ast.Constant):
            self.assertIsInstance(node.value, (int, str, type(None)), where)
        elif isinstance(node, (ast.For, ast.While)):
            self.assertEqual(node.orelse, [], where)

    def test_a_set_stands_straight_within_sorted(self):
        for path in sources():
            nodes = list(ast.walk(ast.parse(path.read_text())))
            within = [
                node.args[0].func
                for node in nodes
                if is_call_of(node, "sorted") and not node.keywords and is_call_of(node.args[0], "set")
            ]
            for node in nodes:
                if isinstance(node, ast.Name) and node.id == "set":
                    self.assertIn(node, within, (path.name, node.lineno))

    def test_the_top_of_a_file_keeps_nothing_that_can_change(self):
        for path in sources():
            for node in ast.parse(path.read_text()).body:
                self.assertIsInstance(node, (ast.Expr, ast.Assign, ast.FunctionDef), path)
                if isinstance(node, ast.Assign):
                    self.assertIsInstance(ast.literal_eval(node.value), (int, str, tuple), path)


if __name__ == "__main__":
    unittest.main()
