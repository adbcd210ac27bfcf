"""The package's files, held against what of LANGUAGE.md can be seen from outside (the rule's number in each test)."""

import ast
import os
import re
import unittest

PACKAGE = os.path.join(os.path.dirname(os.path.dirname(os.path.abspath(__file__))), "grammarlook")
OWN_METHODS = ("__init__", "__eq__", "__repr__", "__str__", "__len__")
BUILT_IN = ("len range enumerate zip min max sum abs sorted reversed int str bool list tuple dict set frozenset "
            "isinstance ord repr any all divmod Exception ValueError TypeError KeyError IndexError LookupError "
            "ZeroDivisionError ArithmeticError OverflowError RuntimeError NotImplementedError AttributeError "
            "StopIteration").split()
METHODS = ("append clear copy count endswith extend find get index insert isalnum isalpha isdigit islower isspace "
           "isupper items join keys ljust lower lstrip partition pop remove replace reverse rfind rjust rpartition "
           "rsplit rstrip setdefault split splitlines startswith strip update upper values zfill bit_length").split()
WALKERS = "list tuple dict sorted sum any all enumerate zip min max".split()
WORDS = ("type typing typing_extensions enum Enum IntEnum StrEnum Flag IntFlag Generic Protocol ABC ABCMeta "
         "namedtuple NamedTuple TypedDict TYPE_CHECKING abstractmethod").split()
NOT_NAMES = ("register mro elements open input version_info with_traceback add_note attrgetter breakpoint builtins "
             "compile copyright credits delattr dir eval exec exit gc getattr globals hasattr help id importlib "
             "license locals methodcaller os quit setattr super type vars sys format format_map").split()
STATEMENTS = (ast.Assign, ast.AugAssign, ast.If, ast.While, ast.For, ast.Return, ast.Break, ast.Continue, ast.Pass,
              ast.Raise, ast.Try, ast.Expr, ast.FunctionDef, ast.ClassDef, ast.ImportFrom)
NO_EXPRESSIONS = (ast.Set, ast.SetComp, ast.DictComp, ast.GeneratorExp, ast.NamedExpr, ast.Starred, ast.Await,
                  ast.Yield, ast.YieldFrom, ast.Div, ast.MatMult)


def sources():
    found = {}
    for name in sorted(os.listdir(PACKAGE)):
        if name != "__pycache__":
            with open(os.path.join(PACKAGE, name), "rb") as file:
                found[name] = file.read()
    return found


def trees():
    return {name: ast.parse(source) for name, source in sources().items()}


def nodes(*kinds):
    """Each node of the package that is of one of the kinds, with the place to tell."""
    for name, tree in trees().items():
        for node in ast.walk(tree):
            if isinstance(node, kinds):
                yield name + ":" + str(getattr(node, "lineno", 0)), node


def is_plain(node):
    if isinstance(node, ast.UnaryOp) and isinstance(node.op, ast.USub):
        node = node.operand
    if isinstance(node, ast.Constant):
        return node.value is None or type(node.value) in (int, str, bool)
    if isinstance(node, (ast.List, ast.Tuple)):
        return all(is_plain(part) for part in node.elts)
    if isinstance(node, ast.Dict):
        return all(is_plain(part) for part in node.keys + node.values)
    return False


def bound_names():
    """Each name that is bound somewhere in the package: a variable, a parameter, a function, a class."""
    for place, node in nodes(ast.Name, ast.arg, ast.FunctionDef, ast.ClassDef):
        if isinstance(node, ast.arg):
            yield place, node.arg
        elif not isinstance(node, ast.Name):
            yield place, node.name
        elif isinstance(node.ctx, ast.Store):
            yield place, node.id


class Form(unittest.TestCase):
    def test_files(self):
        """L1, L10, L14"""
        self.assertIn("__init__.py", sources())
        for name, source in sources().items():
            self.assertRegex(name, r"^([a-z][a-z0-9_]*|__init__)\.py$")
            self.assertRegex(source.decode("ascii"), r"\A[ -~\n]*\Z")
            lines = source.decode("ascii").split("\n")
            self.assertLessEqual(len(lines), 401, name)
            for line in lines:
                self.assertLessEqual(len(line), 120, name)

    def test_imports(self):
        """L2, L16"""
        found = trees()
        drawn = {}
        for name, tree in found.items():
            drawn[name] = []
            for node in ast.walk(tree):
                self.assertNotIsInstance(node, ast.Import, name)
                if isinstance(node, ast.ImportFrom):
                    self.assertIn(node, tree.body)
                    self.assertEqual(node.level, 0)
                    source = re.fullmatch(r"grammarlook\.([a-z_]+)", node.module).group(1) + ".py"
                    tops = [top.name for top in found[source].body if hasattr(top, "name")]
                    for alias in node.names:
                        self.assertIn(alias.name, tops)
                    drawn[name].append(source)
        while drawn:
            free = [name for name in drawn if not any(source in drawn for source in drawn[name])]
            self.assertNotEqual(free, [], "files that draw from one another")
            for name in free:
                del drawn[name]

    def test_the_top_of_a_module(self):
        """L3, L15"""
        for name, tree in trees().items():
            bound = []
            for node in tree.body:
                if isinstance(node, ast.Assign):
                    self.assertTrue(is_plain(node.value), name)
                    bound.extend(target.id for target in node.targets)
                elif isinstance(node, ast.ImportFrom):
                    bound.extend(alias.name for alias in node.names)
                elif isinstance(node, (ast.FunctionDef, ast.ClassDef)):
                    bound.append(node.name)
                else:
                    self.assertIsInstance(node.value, ast.Constant, name)
            self.assertEqual(len(bound), len(set(bound)), name)

    def test_functions(self):
        """L4, L10, L21"""
        for place, node in nodes(ast.FunctionDef):
            self.assertLessEqual(node.end_lineno - node.lineno + 1, 40, place)
            self.assertEqual(node.decorator_list, [], place)
            self.assertIsNone(node.args.vararg, place)
            self.assertIsNone(node.args.kwarg, place)
            self.assertEqual(node.args.kwonlyargs + node.args.posonlyargs, [], place)
            for value in node.args.defaults:
                self.assertTrue(is_plain(value), place)
            for part in node.args.args:
                self.assertIsNone(part.annotation, place)
            self.assertIsNone(node.returns, place)

    def test_classes(self):
        """L5, L18"""
        methods = set()
        for place, node in nodes(ast.ClassDef):
            self.assertLessEqual(len(node.bases), 1, place)
            self.assertEqual(node.decorator_list + node.keywords, [], place)
            inside = [part.name for part in node.body if isinstance(part, ast.FunctionDef)]
            self.assertEqual(len(inside), len(set(inside)), place)
            methods.update(inside)
            for part in node.body:
                if not isinstance(part, (ast.FunctionDef, ast.Pass)):
                    self.assertIsInstance(part.value, ast.Constant, place)
        for place, node in nodes(ast.Attribute):
            if isinstance(node.ctx, ast.Store):
                self.assertNotIn(node.attr, methods, place)

    def test_statements(self):
        """L6"""
        for place, node in nodes(ast.stmt):
            self.assertIsInstance(node, STATEMENTS, place)
            if isinstance(node, (ast.For, ast.While)):
                self.assertEqual(node.orelse, [], place)
            if isinstance(node, ast.Assign):
                self.assertEqual(len(node.targets), 1, place)
                self.assertIsInstance(node.targets[0], (ast.Name, ast.Attribute, ast.Subscript), place)
            if isinstance(node, ast.Expr):
                self.assertIsInstance(node.value, (ast.Call, ast.Constant), place)
            if isinstance(node, ast.Try):
                self.assertEqual(node.finalbody, [], place)

    def test_expressions(self):
        """L7, L20, L27"""
        for place, node in nodes(ast.AST):
            self.assertNotIsInstance(node, NO_EXPRESSIONS, place)
            if isinstance(node, ast.Constant):
                self.assertIn(type(node.value), (int, str, bool, type(None)), place)
                self.assertNotIn("%", str(node.value), place)
            if isinstance(node, ast.ListComp):
                self.assertEqual(len(node.generators), 1, place)
                self.assertLessEqual(len(node.generators[0].ifs), 1, place)
            if isinstance(node, ast.Pow):
                self.fail(place)
            if isinstance(node, ast.Compare) and any(isinstance(op, (ast.Is, ast.IsNot)) for op in node.ops):
                self.assertIsInstance(node.comparators[0], ast.Constant, place)

    def test_names(self):
        """L8, L12, L15, L17"""
        pythons_own = dir(__builtins__) if not isinstance(__builtins__, dict) else list(__builtins__)
        for place, name in bound_names():
            if name not in OWN_METHODS:
                self.assertRegex(name, r"^[A-Za-z][A-Za-z0-9_]*$", place)
                self.assertNotIn(name, pythons_own, place)
                self.assertNotIn(name, NOT_NAMES, place)
        for place, node in nodes(ast.Name):
            if isinstance(node.ctx, ast.Load) and node.id in pythons_own:
                self.assertIn(node.id, BUILT_IN, place)
            self.assertNotIn(node.id, NOT_NAMES, place)

    def test_words(self):
        """L17"""
        for name, source in sources().items():
            text = source.decode("ascii")
            for word in WORDS:
                self.assertIsNone(re.search(r"\b" + word + r"\b", text), name + " has " + word)
            for word in ("dataclass", "overload", "contextmanager"):
                self.assertNotIn(word, text, name)

    def test_methods_that_are_called(self):
        """L25, L26"""
        own = [name for place, node in nodes(ast.ClassDef) for name in
               [part.name for part in node.body if isinstance(part, ast.FunctionDef)]]
        for place, node in nodes(ast.Call):
            if isinstance(node.func, ast.Attribute):
                self.assertIn(node.func.attr, METHODS + own, place)

    def test_own_methods_and_values(self):
        """L26"""
        pythons_own = set()
        for value in ("", 0, [], (), {}, set(), b""):
            pythons_own.update(dir(value))
        values = "count index title find get join lower upper split strip copy add".split()
        for place, node in nodes(ast.Attribute):
            if isinstance(node.ctx, ast.Store) and node.attr not in values:
                self.assertNotIn(node.attr, pythons_own, place)
        for place, node in nodes(ast.ClassDef):
            for part in node.body:
                if isinstance(part, ast.FunctionDef) and part.name not in METHODS + ["add", "discard", "__init__"]:
                    self.assertNotIn(part.name, pythons_own, place)

    def test_walked_at_once(self):
        """L23"""
        walked = []
        for place, node in nodes(ast.For, ast.comprehension, ast.Call):
            if not isinstance(node, ast.Call):
                walked.append(ast.dump(node.iter, include_attributes=True))
            elif isinstance(node.func, ast.Name) and node.func.id in WALKERS and len(node.args) > 0:
                walked.append(ast.dump(node.args[0], include_attributes=True))
        for place, node in nodes(ast.Call):
            if isinstance(node.func, ast.Name) and node.func.id in ("zip", "enumerate", "reversed", "range"):
                self.assertIn(ast.dump(node, include_attributes=True), walked, place)


if __name__ == "__main__":
    unittest.main()
