"""Checks the rules of LANGUAGE.md that a short look at the code can decide."""

import ast
import builtins
import pathlib
import re
import unittest

import boundstone

FOLDER = pathlib.Path(boundstone.__file__).parent

BUILTINS = set("""len range enumerate zip min max sum abs sorted reversed int str bool list tuple
dict set isinstance ord repr any all divmod ValueError KeyError IndexError LookupError""".split())

METHODS = set("""append clear copy count endswith extend find get index insert isalnum isalpha
isdigit islower isspace isupper items join keys ljust lower lstrip partition pop remove replace
reverse rfind rjust rpartition rsplit rstrip setdefault split splitlines startswith strip update
upper values zfill bit_length isascii""".split())

BARRED = re.compile(r"\b(type|typing|enum|Enum|Flag|Generic|Protocol|ABC|namedtuple)\b|dataclass|"
                    r"overload|contextmanager|_wall")

# Names that nothing has, neither a variable nor an attribute.
BARRED_NAMES = re.compile(r"^(register|mro|elements|open|input|law|version_info|with_traceback|add_note|"
                          r"_(cold|tuplegetter|outside|record|written_out)[0-9_]*|"
                          r"_(pe|dcw|enum|cm|twin_re|lay|law|stub)_.*|_sre.*)$")

# Methods that count as changes.
CHANGES = set("append clear extend insert pop remove reverse setdefault sort update".split())

# Names that no attribute has.
BARRED_ATTRIBUTES = CHANGES | set("items keys values args encode decode hex fromhex format".split())

NODES = set("""Module FunctionDef arguments arg ClassDef ImportFrom alias Return Assign AugAssign
For While If Raise Assert Delete Try ExceptHandler Expr Pass Break Continue BoolOp BinOp UnaryOp
IfExp Lambda Dict List Tuple ListComp DictComp SetComp GeneratorExp comprehension Set Compare Call
keyword Constant Attribute Subscript Slice Name JoinedStr FormattedValue Starred Load Store Del And
Or Add Sub Mult FloorDiv Mod Pow USub Not Eq NotEq Lt LtE Gt GtE Is IsNot In NotIn""".split())


def sources():
    return sorted(path for path in FOLDER.rglob("*") if "__pycache__" not in path.parts)


def trees():
    return [(path, ast.parse(path.read_text("utf-8"))) for path in sources()]


def nodes(kind):
    return [(path, node) for path, tree in trees() for node in ast.walk(tree)
            if isinstance(node, kind)]


def defined(tree):
    names = []
    for node in tree.body:
        if isinstance(node, (ast.FunctionDef, ast.ClassDef)):
            names.append(node.name)
        elif isinstance(node, ast.Assign):
            names.extend(target.id for target in node.targets)
    return names


def bound():
    for path, node in nodes((ast.FunctionDef, ast.ClassDef, ast.arg, ast.Name, ast.alias)):
        if isinstance(node, ast.Name):
            if isinstance(node.ctx, ast.Store):
                yield path, node.id
        else:
            yield path, getattr(node, "arg", None) or node.name


class FormTest(unittest.TestCase):
    def test_the_folder_holds_plain_files(self):
        for path in sources():
            self.assertRegex(path.name, r"^(__init__|[a-z][a-z0-9_]*)\.py$")
            self.assertEqual(path.parent, FOLDER)

    def test_sizes_and_characters(self):
        for path in sources():
            text = path.read_text("utf-8")
            lines = text.splitlines()
            self.assertLess(len(lines), 400, path)
            self.assertLessEqual(max(len(line) for line in lines), 120, path)
            self.assertRegex(text, r"\A[ -~\n]*\Z", path)

    def test_functions_are_short_and_plain(self):
        for path, node in nodes(ast.FunctionDef):
            self.assertLessEqual(node.end_lineno - node.lineno + 1, 40, (path, node.name))
            self.assertEqual(node.decorator_list, [], (path, node.name))

    def test_kinds_of_statements_and_expressions(self):
        for path, node in nodes(ast.AST):
            where = (path, getattr(node, "lineno", None), node.__class__.__name__)
            self.assertIn(node.__class__.__name__, NODES, where)

    def test_the_module_level(self):
        allowed = (ast.ImportFrom, ast.FunctionDef, ast.ClassDef, ast.Assign)
        for path, tree in trees():
            docstring, *rest = tree.body
            self.assertIsInstance(docstring.value.value, str, path)
            for node in rest:
                self.assertIsInstance(node, allowed, (path, node.lineno))
            names = defined(tree)
            self.assertEqual(len(names), len(set(names)), path)

    def test_imports_name_the_file_that_defines(self):
        names = {"boundstone." + path.stem: defined(tree) for path, tree in trees()}
        for path, node in nodes(ast.ImportFrom):
            for alias in node.names:
                self.assertIn(alias.name, names[node.module], path)
                self.assertIsNone(alias.asname, path)

    def test_imports_have_no_circle(self):
        heads = {path.stem: [] for path in sources()}
        for path, node in nodes(ast.ImportFrom):
            heads[path.stem].append(node.module.partition(".")[2])
        while heads:
            free = [name for name, needs in heads.items() if not set(needs) & set(heads)]
            self.assertNotEqual(free, [], heads)
            for name in free:
                del heads[name]

    def test_names(self):
        for path, name in bound():
            self.assertNotIn(name, dir(builtins), path)
            self.assertRegex(name, r"^(_?[A-Za-z][A-Za-z0-9_]*|_|__init__)$", path)

    def test_names_that_are_barred(self):
        for path, node in nodes((ast.Name, ast.Attribute, ast.arg, ast.keyword, ast.FunctionDef, ast.ClassDef)):
            name = next(getattr(node, part) for part in ("id", "attr", "arg", "name") if hasattr(node, part))
            self.assertIsNone(BARRED_NAMES.match(name), (path, name))

    def test_attributes(self):
        for path, node in nodes(ast.Attribute):
            if isinstance(node.ctx, ast.Store):
                self.assertNotIn(node.attr, BARRED_ATTRIBUTES, (path, node.lineno))
        for path, cls in nodes(ast.ClassDef):
            methods = {node.name for node in cls.body if isinstance(node, ast.FunctionDef)}
            stored = {node.attr for node in ast.walk(cls)
                      if isinstance(node, ast.Attribute) and isinstance(node.ctx, ast.Store)}
            self.assertEqual(methods & stored, set(), path)

    def test_no_local_name_is_the_name_of_an_import_or_a_class(self):
        for path, tree in trees():
            taken = {alias.name for node in tree.body if isinstance(node, ast.ImportFrom) for alias in node.names}
            taken |= {node.name for node in tree.body if isinstance(node, ast.ClassDef)}
            for node in ast.walk(tree):
                if isinstance(node, ast.arg):
                    self.assertNotIn(node.arg, taken, (path, node.lineno))
                elif isinstance(node, ast.Name) and isinstance(node.ctx, ast.Store):
                    self.assertNotIn(node.id, taken, (path, node.lineno))

    def test_loops_do_not_change_what_they_go_over(self):
        for path, loop in nodes(ast.For):
            gone_over = {ast.unparse(node) for node in ast.walk(loop.iter)
                         if isinstance(node, (ast.Name, ast.Attribute))}
            for node in ast.walk(loop):
                if isinstance(node, ast.Call) and isinstance(node.func, ast.Attribute):
                    if node.func.attr in CHANGES:
                        self.assertNotIn(ast.unparse(node.func.value), gone_over, (path, node.lineno))
                if isinstance(node, ast.Subscript) and not isinstance(node.ctx, ast.Load):
                    self.assertNotIn(ast.unparse(node.value), gone_over, (path, node.lineno))

    def test_builtins(self):
        for path, node in nodes(ast.Name):
            if node.id in dir(builtins):
                self.assertIn(node.id, BUILTINS, (path, node.lineno))

    def test_methods(self):
        own = {node.name for _, node in nodes(ast.FunctionDef)}
        for path, node in nodes(ast.Call):
            if isinstance(node.func, ast.Attribute):
                self.assertIn(node.func.attr, METHODS | own, (path, node.lineno))

    def test_words(self):
        for path, tree in trees():
            # What is left of the tree has no comments, and its docstrings are taken out.
            for node in ast.walk(tree):
                if isinstance(node, (ast.Module, ast.ClassDef, ast.FunctionDef)):
                    node.body = [part for part in node.body if not isinstance(part, ast.Expr)
                                 or not isinstance(part.value, ast.Constant)]
            text = ast.unparse(tree)
            self.assertIsNone(BARRED.search(text), path)

    def test_constants(self):
        for path, node in nodes(ast.Constant):
            where = (path, node.lineno)
            if isinstance(node.value, str):
                self.assertNotIn(chr(37), node.value, where)
            else:
                self.assertIn(node.value.__class__, (int, bool, None.__class__), where)

    def test_exponents_are_small_literals(self):
        for path, node in nodes(ast.BinOp):
            if isinstance(node.op, ast.Pow):
                self.assertIn(node.right.value, range(65), (path, node.lineno))

    def test_is_stands_beside_none_true_and_false(self):
        for path, node in nodes(ast.Compare):
            for sign, right in zip(node.ops, node.comparators):
                if isinstance(sign, (ast.Is, ast.IsNot)):
                    self.assertIn(right.value, (None, True, False), (path, node.lineno))


if __name__ == "__main__":
    unittest.main()
