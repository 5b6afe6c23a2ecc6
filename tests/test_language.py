"""Those rules of the program's part of Python that can be read off its files, and the names of its interface."""

import ast
import builtins
import inspect
import pathlib
import re
import unittest

import dotpages.dots

PACKAGE = pathlib.Path(dotpages.__file__).parent

INTERFACE = {
    "do_pack": "w, b",
    "do_spread": "w, h, x",
    "do_three": "t, w, h, x, y, z",
    "do_move": "dx, dy, w, h, x",
    "do_thicker": "dx, dy, w, h, x",
    "do_thinner": "dx, dy, w, h, x",
    "do_open": "dx, dy, w, h, x",
    "do_close": "dx, dy, w, h, x",
    "do_fit": "black, white, w, h, x",
    "do_keep": "k, w, h, x",
    "do_thin": "w, h, x",
    "do_counts": "w, h, x",
    "do_runs": "r, w, h, x",
    "do_turn": "q, w, h, x",
    "do_mirror": "w, h, x",
    "do_half": "k, w, h, x",
    "do_double": "w, h, x",
    "do_box": "w, h, x",
    "do_cut": "x0, y0, uu, vv, w, h, x",
    "do_apart": "w, h, x, y",
    "do_table1": "t, a, b, c",
}

NODES = set("""Module Expr Constant FunctionDef arguments arg Return If While For Break Continue Pass Assign AugAssign
    Name Load Store Call Attribute Subscript Slice List Tuple Dict ListComp comprehension BinOp UnaryOp BoolOp Compare
    IfExp Add Sub Mult FloorDiv Mod Pow LShift RShift BitOr BitXor BitAnd USub Invert Not And Or
    Eq NotEq Lt LtE Gt GtE In NotIn""".split())
BUILT_IN = set("""len range enumerate zip min max sum abs sorted reversed int str bool list tuple dict isinstance
    any all divmod""".split())
METHODS = set("append clear copy count extend get index insert items keys pop remove reverse values bit_length".split())
WORDS = re.compile(r"\b(type|typing|enum|Enum|Flag|Generic|Protocol|ABC|register|elements|open|input)\b")


def sources():
    return sorted(path for path in PACKAGE.rglob("*") if path.is_file() and "__pycache__" not in path.parts)


class Language(unittest.TestCase):
    def test_files(self):
        for path in sources():
            self.assertRegex(path.name, r"^[a-z0-9_]+\.py$")

    def test_text(self):
        for path in sources():
            text = path.read_bytes().decode("ascii")
            self.assertRegex(text, r"\A[\n -~]*\Z")
            self.assertIsNone(WORDS.search(text))
            lines = text.split("\n")
            self.assertLess(len(lines), 400)
            self.assertLessEqual(max(len(line) for line in lines), 120)

    def test_nodes(self):
        # Nothing here needs an import, a class or an error; a file that comes to need one widens this list.
        for path in sources():
            for node in ast.walk(ast.parse(path.read_text())):
                self.assertIn(type(node).__name__, NODES, (path.name, getattr(node, "lineno", 0)))

    def test_names(self):
        for path in sources():
            tree = ast.parse(path.read_text())
            names = [node for node in ast.walk(tree) if isinstance(node, ast.Name)]
            bound = {node.id for node in names if isinstance(node.ctx, ast.Store)}
            bound |= {node.arg for node in ast.walk(tree) if isinstance(node, ast.arg)}
            bound |= {node.name for node in ast.walk(tree) if isinstance(node, ast.FunctionDef)}
            for name in bound:
                self.assertRegex(name, r"^[A-Za-z][A-Za-z0-9_]*$")
                self.assertNotIn(name, dir(builtins))
            self.assertLessEqual({node.id for node in names} - bound, BUILT_IN)

    def test_methods(self):
        for path in sources():
            for node in ast.walk(ast.parse(path.read_text())):
                if isinstance(node, ast.Attribute):
                    self.assertIn(node.attr, METHODS)

    def test_functions(self):
        for path in sources():
            for node in ast.walk(ast.parse(path.read_text())):
                if isinstance(node, ast.FunctionDef):
                    self.assertLessEqual(node.end_lineno - node.lineno + 1, 40)
                    self.assertEqual([], node.decorator_list + node.args.defaults)

    def test_top_of_file(self):
        for path in sources():
            for node in ast.parse(path.read_text()).body:
                value = node.value if isinstance(node, (ast.Assign, ast.Expr)) else None
                values = value.elts if isinstance(value, ast.Tuple) else [value]
                plain = all(isinstance(part, ast.Constant) for part in values)
                self.assertTrue(isinstance(node, ast.FunctionDef) or plain)


class Interface(unittest.TestCase):
    def test_names_and_arguments(self):
        for name, arguments in INTERFACE.items():
            function = getattr(dotpages.dots, name)
            self.assertEqual("(%s)" % arguments, str(inspect.signature(function)))
            self.assertEqual("dotpages.dots", function.__module__)

    def test_no_other_call(self):
        self.assertEqual(sorted(INTERFACE), sorted(name for name in vars(dotpages.dots) if name.startswith("do_")))


if __name__ == "__main__":
    unittest.main()
