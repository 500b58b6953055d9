"""The rules of the language subset that can be seen in the code of one file."""

import ast
import builtins
import pathlib
import re
import unittest

PACKAGE = pathlib.Path(__file__).resolve().parent.parent / "partswithin"
ALLOWED = """len range enumerate zip min max sum abs sorted reversed int str bool list tuple dict set
isinstance ord repr any all divmod ValueError KeyError""".split()
METHODS = """append clear copy count endswith extend find get index insert isalnum isalpha isdigit
islower isspace isupper items join keys ljust lower lstrip partition pop remove replace reverse
rfind rjust rpartition rsplit rstrip setdefault split splitlines startswith strip update upper
values zfill""".split()
LIBRARY = {("math", "gcd"), ("math", "lcm"), ("math", "isqrt"), ("math", "comb"),
           ("heapq", "heappush"), ("heapq", "heappop")}
STATEMENTS = (ast.Assign, ast.AugAssign, ast.If, ast.While, ast.For, ast.Return, ast.Break,
              ast.Continue, ast.Pass, ast.Raise, ast.Delete, ast.Try, ast.Expr, ast.FunctionDef,
              ast.ClassDef, ast.ImportFrom)
NOWHERE = re.compile(r"\b(type|typing|enum|Enum|Flag|Generic|Protocol|ABC|namedtuple|register|mro|elements"
                     r"|open|input|law|eval|exec|exit|globals|locals|vars|dir|id|os|sys|help|hash|super)\b")


def files():
    return sorted(PACKAGE.rglob("*.py"))


def nodes(kind):
    """All nodes of a kind, each with its file's name."""
    for path in files():
        for node in ast.walk(ast.parse(path.read_text())):
            if isinstance(node, kind):
                yield path.name, node


def parameters(node):
    return [one.arg for one in node.args.posonlyargs + node.args.args + node.args.kwonlyargs]


class Language(unittest.TestCase):

    def test_files_lines_and_signs(self):
        for path in PACKAGE.rglob("*"):
            if "__pycache__" not in path.parts:
                self.assertEqual((path.suffix, path.is_file()), (".py", True))
                self.assertRegex(path.stem, "^[a-z_]+$")
        for path in files():
            text = path.read_text()
            self.assertLessEqual(len(text.split("\n")), 400, path.name)
            self.assertTrue(all(sign == "\n" or " " <= sign <= "~" for sign in text), path.name)
            self.assertTrue(all(len(line) <= 120 for line in text.split("\n")), path.name)
            self.assertEqual(re.findall(r"\\[^nt\\'\"]", text), [], path.name)

    def test_sizes_of_functions(self):
        for name, node in nodes(ast.FunctionDef):
            self.assertLess(node.end_lineno - node.lineno, 40, (name, node.name))
            self.assertEqual((node.decorator_list, node.returns), ([], None))

    def test_imports(self):
        for name, node in nodes(ast.Import):
            self.fail((name, node.names))
        for name, node in nodes(ast.ImportFrom):
            for one in node.names:
                self.assertIsNone(one.asname)
                if node.module.startswith("partswithin."):
                    found = ast.parse((PACKAGE / f"{node.module.split('.')[1]}.py").read_text())
                    bound = [part.name for part in found.body if hasattr(part, "name")]
                    bound += [part.targets[0].id for part in found.body if isinstance(part, ast.Assign)]
                    self.assertIn(one.name, bound, name)
                else:
                    self.assertIn((node.module, one.name), LIBRARY, name)

    def test_no_two_files_import_from_each_other(self):
        ahead = {path.stem: {part.module.split(".")[1] for part in ast.parse(path.read_text()).body
                             if isinstance(part, ast.ImportFrom) and part.module.startswith("partswithin.")}
                 for path in files()}
        while ahead:
            free = [name for name, others in ahead.items() if not others & set(ahead)]
            self.assertTrue(free, ahead)
            for name in free:
                del ahead[name]

    def test_statements_and_expressions(self):
        for name, node in nodes(ast.stmt):
            self.assertIsInstance(node, STATEMENTS, (name, node.lineno))
        wrong = (ast.GeneratorExp, ast.Await, ast.Yield, ast.YieldFrom, ast.Div, ast.MatMult)
        for name, node in nodes(wrong):
            self.fail((name, getattr(node, "lineno", node)))
        for name, node in nodes(ast.Try):
            for statement in node.finalbody:
                self.assertIsInstance(statement, ast.Assign, (name, node.lineno))
                self.assertIsInstance(statement.value, ast.Name, (name, node.lineno))
        for name, node in nodes(ast.Constant):
            self.assertIsInstance(node.value, (int, str, type(None)), (name, node.lineno))
            self.assertNotIn("%", str(node.value), (name, node.lineno))
        for name, node in nodes(ast.Compare):
            for sign, thing in zip(node.ops, node.comparators):
                if isinstance(sign, (ast.Is, ast.IsNot)):
                    self.assertIsInstance(thing, ast.Constant, (name, node.lineno))
        for name, node in nodes(ast.ExceptHandler):
            for kind in node.type.elts if isinstance(node.type, ast.Tuple) else [node.type]:
                self.assertIsInstance(kind, ast.Name, (name, node.lineno))
                self.assertNotIn(kind.id, dir(builtins), (name, node.lineno))

    def test_names(self):
        for name, node in nodes((ast.Name, ast.arg, ast.Attribute, ast.FunctionDef, ast.ClassDef)):
            word = [getattr(node, key) for key in ("id", "arg", "attr", "name") if hasattr(node, key)][0]
            self.assertIsNone(NOWHERE.fullmatch(word), (name, word))
        for name, node in nodes(ast.Name):
            if node.id in dir(builtins):
                self.assertIn(node.id, ALLOWED, (name, node.lineno))
                self.assertIsInstance(node.ctx, ast.Load, (name, node.lineno))
        for path in files():
            tree = ast.parse(path.read_text())
            bound = {one.name for part in ast.walk(tree) if isinstance(part, ast.ImportFrom) for one in part.names}
            bound |= {part.name for part in tree.body if isinstance(part, (ast.ClassDef, ast.FunctionDef))}
            bound |= set(dir(builtins))
            for part in ast.walk(tree):
                if isinstance(part, (ast.FunctionDef, ast.Lambda)):
                    self.assertFalse(bound & set(parameters(part)), (path.name, part.lineno))
                if isinstance(part, ast.FunctionDef):
                    stored = {one.id for one in ast.walk(part)
                              if isinstance(one, ast.Name) and isinstance(one.ctx, ast.Store)}
                    self.assertFalse(bound & stored, (path.name, part.name, bound & stored))

    def test_methods(self):
        own = {part.name for _, node in nodes(ast.ClassDef) for part in node.body if hasattr(part, "name")}
        for name, node in nodes(ast.Call):
            if isinstance(node.func, ast.Attribute):
                self.assertIn(node.func.attr, own | set(METHODS), (name, node.lineno))
        allowed = ("__init__", "__eq__", "__repr__", "__str__", "__len__")
        self.assertTrue(all(not word.startswith("__") or word in allowed for word in own))

    def test_no_name_is_a_method_and_an_attribute(self):
        methods = {part.name for _, node in nodes(ast.ClassDef) for part in node.body if hasattr(part, "name")}
        attributes = {node.attr for _, node in nodes(ast.Attribute) if isinstance(node.ctx, ast.Store)}
        self.assertEqual(methods & attributes, set())

    def test_lambdas(self):
        stood = {}
        for name, node in nodes(ast.Lambda):
            line = (name, node.lineno, tuple(parameters(node)))
            self.assertNotIn(line, stood)
            stood[line] = True

    def test_sets_stand_on_the_spot_or_in_a_name(self):
        kept = {id(node.value) for _, node in nodes(ast.Assign)}
        inside = {id(part) for _, node in nodes(ast.Call) if isinstance(node.func, ast.Name)
                  and node.func.id in ("sorted", "len") for part in ast.walk(node)}
        beside = {id(part) for _, node in nodes(ast.Compare) for part in ast.walk(node)}
        for name, node in nodes((ast.Set, ast.SetComp)):
            self.assertIn(id(node), kept | inside | beside, (name, node.lineno))


if __name__ == "__main__":
    unittest.main()
