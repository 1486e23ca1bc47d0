"""The rules of ../shared/LANGUAGE.md that a test can see, as far as the package comes near them."""

import ast
import builtins
import os
import re
import unittest

ROOT = os.path.dirname(os.path.dirname(os.path.abspath(__file__)))
PACKAGE = os.path.join(ROOT, "clockwright")

BUILTINS = set("""len range enumerate zip min max sum abs sorted reversed int str bool bytes list tuple dict set frozenset
    isinstance ord repr any all divmod ValueError KeyError""".split())
METHODS = set("""append clear copy count endswith extend find get index insert isalnum isalpha isdigit islower isspace
    isupper items join keys ljust lower lstrip partition pop remove replace reverse rfind rjust rpartition rsplit rstrip
    setdefault split splitlines startswith strip update upper values zfill bit_length""".split())
WORDS = set("""type typing typing_extensions enum Enum IntEnum StrEnum Flag IntFlag Generic Protocol ABC ABCMeta namedtuple
    NamedTuple TypedDict TYPE_CHECKING abstractmethod mro elements open input law version_info with_traceback add_note
    register _wall _WallAttr""".split())
SPECIAL = set("__init__ __eq__ __repr__ __str__ __len__".split())
STATEMENTS = (
    ast.Assign, ast.AugAssign, ast.If, ast.While, ast.For, ast.Return, ast.Break, ast.Continue, ast.Pass, ast.Raise,
    ast.Assert, ast.Delete, ast.Try, ast.Expr, ast.FunctionDef, ast.ClassDef, ast.ImportFrom,
)
DOCUMENTED = {
    "errors": "Refused Malformed Unknown Twice Misused Width Unbounded Undriven Driven Latched Circular Unbuildable "
              "Unsettled Uncovered NotACut Unsupported",
    "logic": "is_vector is_known is_refined to_number from_number least_width resize bit_not bit_and bit_or bit_xor "
             "reduce_and reduce_or reduce_xor negate add subtract multiply less less_equal equal not_equal same truth "
             "logic_not logic_and logic_or shift_left shift_right choose pick part join",
    "lexer": "tokenize is_name",
    "widths": "constant is_constant literal width_of",
    "tree": "size depth reads writes calls substitute",
    "parser": "parse_expression parse_target parse_block parse_statement expression",
    "items": "parse unit_named declared_names",
    "printer": "show_expression show_target show_statement show_units",
    "design": "Design",
    "flat": "elaborate design_of",
}


def source(name):
    with open(os.path.join(PACKAGE, name), encoding="utf-8") as file:
        return file.read()


FILES = sorted(name for name in os.listdir(PACKAGE) if name != "__pycache__")
TREES = {name: ast.parse(source(name)) for name in FILES}


def nodes(kind):
    return [(name, node) for name, tree in TREES.items() for node in ast.walk(tree) if isinstance(node, kind)]


def functions_with_names():
    """Each function with the names of its parameters and local variables."""
    for name, function in nodes(ast.FunctionDef):
        arguments = function.args
        found = {argument.arg for argument in arguments.posonlyargs + arguments.args + arguments.kwonlyargs}
        for node in ast.walk(function):
            if isinstance(node, ast.Name) and isinstance(node.ctx, ast.Store):
                found.add(node.id)
        yield name, function, found


class FilesTest(unittest.TestCase):
    def test_names_of_files(self):
        for name in FILES:
            self.assertRegex(name, r"^(__init__|[a-z][a-z0-9_]*)\.py$")

    def test_characters_and_sizes(self):
        for name in FILES:
            text = source(name)
            self.assertTrue(set(text) <= set(map(chr, range(32, 127))) | {"\n"}, name)
            self.assertTrue(text.endswith("\n"), name)
            lines = text.splitlines()
            self.assertLess(len(lines), 400, name)
            self.assertLessEqual(max(map(len, lines)), 120, name)

    def test_sizes_of_functions(self):
        for name, function in nodes(ast.FunctionDef):
            self.assertLessEqual(function.end_lineno - function.lineno + 1, 40, (name, function.name))

    def test_words_that_are_not_used(self):
        for name, node in nodes(ast.AST):
            for field in ("id", "attr", "arg", "name"):
                self.assertNotIn(getattr(node, field, None), WORDS, name)
        for name in FILES:
            self.assertNotRegex(source(name), "_wall|_WallAttr|dataclass|overload|contextmanager", name)

    def test_interface(self):
        for module, words in DOCUMENTED.items():
            defined = [node.name for node in TREES[module + ".py"].body if isinstance(node, (ast.FunctionDef, ast.ClassDef))]
            for word in words.split():
                self.assertIn(word, defined, module)

    def test_docstrings(self):
        for name, tree in TREES.items():
            self.assertTrue(ast.get_docstring(tree), name)
            for node in tree.body:
                if isinstance(node, (ast.FunctionDef, ast.ClassDef)) and not node.name.startswith("_"):
                    self.assertTrue(ast.get_docstring(node), (name, node.name))


class ModulesTest(unittest.TestCase):
    def test_imports(self):
        self.assertEqual(nodes(ast.Import), [])
        for name, node in nodes(ast.ImportFrom):
            self.assertEqual((node.level, node.module.split(".")[0]), (0, "clockwright"), name)
            home = TREES[node.module.split(".")[1] + ".py"]
            defined = [part.name for part in home.body if isinstance(part, (ast.FunctionDef, ast.ClassDef))]
            for alias in node.names:
                self.assertIsNone(alias.asname)
                self.assertIn(alias.name, defined, name)

    def test_imports_have_no_cycles(self):
        left = {name: {node.module.split(".")[1] + ".py" for home, node in nodes(ast.ImportFrom) if home == name} for name in FILES}
        while left:
            free = [name for name in left if not left[name] & set(left)]
            self.assertTrue(free, left)
            for name in free:
                del left[name]

    def test_each_name_is_bound_once(self):
        for name, tree in TREES.items():
            bound = []
            for node in tree.body:
                if isinstance(node, ast.ImportFrom):
                    bound += [alias.name for alias in node.names]
                elif isinstance(node, ast.Assign):
                    bound += [target.id for target in node.targets]
                elif isinstance(node, (ast.FunctionDef, ast.ClassDef)):
                    bound.append(node.name)
                else:
                    self.assertIsInstance(node, ast.Expr, name)
                    self.assertIsInstance(node.value, ast.Constant, name)
            self.assertEqual(len(bound), len(set(bound)), name)

    def test_imports_are_used(self):
        for name, node in nodes(ast.ImportFrom):
            used = {inner.id for inner in ast.walk(TREES[name]) if isinstance(inner, ast.Name)}
            for alias in node.names:
                self.assertIn(alias.name, used, name)

    def test_module_level_names_are_used(self):
        for name, tree in TREES.items():
            used = {node.id for node in ast.walk(tree) if isinstance(node, ast.Name) and isinstance(node.ctx, ast.Load)}
            for node in tree.body:
                if isinstance(node, ast.Assign):
                    self.assertIn(node.targets[0].id, used, name)
                if isinstance(node, ast.FunctionDef) and node.name.startswith("_"):
                    self.assertIn(node.name, used, name)


class StatementsTest(unittest.TestCase):
    def test_statements(self):
        for name, node in nodes(ast.stmt):
            self.assertIsInstance(node, STATEMENTS, (name, node.lineno))

    def test_no_decorators_stars_lambdas_or_annotations(self):
        for name, node in nodes((ast.Lambda, ast.AnnAssign, ast.Set, ast.SetComp, ast.Yield, ast.YieldFrom, ast.NamedExpr, ast.Await)):
            self.fail((name, node.lineno))
        for name, node in nodes((ast.FunctionDef, ast.ClassDef)):
            self.assertEqual(node.decorator_list, [], name)
        for name, node in nodes(ast.arg):
            self.assertIsNone(node.annotation, name)
        for name, node in nodes(ast.FunctionDef):
            self.assertIsNone(node.args.vararg or node.args.kwarg or node.returns, name)

    def test_functions_are_not_nested(self):
        for name, function in nodes(ast.FunctionDef):
            inner = [node for node in ast.walk(function) if isinstance(node, ast.FunctionDef)]
            self.assertEqual(inner, [function], name)

    def test_special_methods(self):
        for name, node in nodes(ast.FunctionDef):
            if node.name.startswith("__"):
                self.assertIn(node.name, SPECIAL, name)

    def test_handlers_name_own_errors(self):
        own = set(DOCUMENTED["errors"].split())
        for name, node in nodes(ast.ExceptHandler):
            kinds = node.type.elts if isinstance(node.type, ast.Tuple) else [node.type]
            self.assertTrue({kind.id for kind in kinds} <= own, name)

    def test_errors_are_created_on_the_spot(self):
        own = set(DOCUMENTED["errors"].split()) - {"Refused"}
        for name, node in nodes(ast.Raise):
            self.assertIn(node.exc.func.id, own, name)
            self.assertEqual((len(node.exc.args), node.exc.keywords), (1, []), name)


class ExpressionsTest(unittest.TestCase):
    def test_builtins(self):
        for name, node in nodes(ast.Name):
            if hasattr(builtins, node.id):
                self.assertIn(node.id, BUILTINS, (name, node.lineno))
                self.assertIsInstance(node.ctx, ast.Load, (name, node.lineno))

    def test_no_name_hides_another_one(self):
        for name, function, found in functions_with_names():
            taken = {alias.name for home, node in nodes(ast.ImportFrom) if home == name for alias in node.names}
            taken |= {node.name for node in TREES[name].body if isinstance(node, ast.ClassDef)}
            self.assertEqual(found & taken, set(), (name, function.name))
            self.assertEqual([word for word in found if hasattr(builtins, word)], [], (name, function.name))
            for word in found | {function.name}:
                self.assertRegex(word, r"^(_|_?[A-Za-z][A-Za-z0-9_]*|__init__)$")

    def test_called_methods(self):
        own = {node.name for _, node in nodes(ast.FunctionDef)}
        for name, node in nodes(ast.Call):
            if isinstance(node.func, ast.Attribute):
                self.assertTrue(node.func.attr in METHODS or node.func.attr in own, (name, node.lineno))
                if node.func.attr in METHODS:
                    self.assertEqual(node.keywords, [], (name, node.lineno))

    def test_own_methods_and_attributes_have_names_of_their_own(self):
        builtin = {word for kind in (str, int, list, dict, set, bytes) for word in dir(kind) if not word.startswith("__")}
        for name, node in nodes(ast.ClassDef):
            methods = {part.name for part in node.body if isinstance(part, ast.FunctionDef)}
            attributes = {part.attr for part in ast.walk(node) if isinstance(part, ast.Attribute) and isinstance(part.ctx, ast.Store)}
            self.assertEqual((methods | attributes) & builtin, set(), (name, node.name))
            self.assertEqual(methods & attributes, set(), (name, node.name))

    def test_identity(self):
        for name, node in nodes(ast.Compare):
            for operator, side in zip(node.ops, node.comparators):
                if isinstance(operator, (ast.Is, ast.IsNot)):
                    self.assertIsInstance(side, ast.Constant, (name, node.lineno))

    def test_numbers(self):
        for name, node in nodes(ast.Constant):
            self.assertNotIsInstance(node.value, (float, complex, bytes), (name, node.lineno))
        for name, node in nodes(ast.BinOp):
            self.assertNotIsInstance(node.op, (ast.Div, ast.MatMult), (name, node.lineno))
            if isinstance(node.op, ast.Pow):
                self.assertIsInstance(node.right, ast.Constant, (name, node.lineno))

    def test_strings(self):
        for name, node in nodes(ast.Constant):
            if isinstance(node.value, str):
                self.assertNotIn("%", node.value, (name, node.lineno))
                self.assertIsNone(re.search(r"\._{1,2}$", node.value), (name, node.lineno))

    def test_generator_expressions_stand_alone_in_a_call(self):
        allowed = ("list", "tuple", "dict", "sorted", "sum", "min", "max", "any", "all")
        fine = [node.args[0] for _, node in nodes(ast.Call) if isinstance(node.func, ast.Name) and node.func.id in allowed and len(node.args) == 1]
        for name, node in nodes(ast.GeneratorExp):
            self.assertTrue(any(node is other for other in fine), (name, node.lineno))

    def test_iterators_are_used_at_once(self):
        fine = []
        for _, node in nodes((ast.For, ast.comprehension)):
            fine.append(node.iter)
        for name, node in nodes(ast.Call):
            if isinstance(node.func, ast.Name) and node.func.id in ("zip", "enumerate", "reversed", "range"):
                self.assertTrue(any(node is other for other in fine), (name, node.lineno))


if __name__ == "__main__":
    unittest.main()
