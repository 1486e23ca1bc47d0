"""Rules of ../shared/LANGUAGE.md that a test can see, and where the interface is defined."""

import ast
import builtins
import os
import re
import unittest

ROOT = os.path.dirname(os.path.dirname(os.path.abspath(__file__)))
PACKAGE = os.path.join(ROOT, "clockwright")

BUILTINS = set("""len range enumerate zip min max sum abs sorted reversed int str bool bytes list tuple dict set frozenset
    isinstance ord repr any all divmod pow getattr hasattr setattr iter next map type super property staticmethod
    classmethod object print Exception ValueError TypeError KeyError IndexError LookupError ZeroDivisionError
    ArithmeticError OverflowError RuntimeError NotImplementedError AttributeError StopIteration NotImplemented
    __name__""".split())
LOCAL_BUILTINS = set("""object id format credits license copyright quit callable complex ascii oct memoryview aiter
    anext""".split())
WORDS = set("""typing typing_extensions enum Enum IntEnum StrEnum Flag IntFlag Generic Protocol ABC ABCMeta namedtuple
    NamedTuple TypedDict TYPE_CHECKING abstractmethod mro elements open input law version_info with_traceback add_note
    _wall _WallAttr""".split())
LIBRARY = {
    "__future__": {"annotations"},
    "heapq": {"heappush", "heappop", "heapify", "heapreplace", "heappushpop"},
    "math": {"gcd", "lcm", "isqrt", "comb", "perm", "factorial"},
    "itertools": {"product", "combinations", "permutations", "chain", "accumulate", "pairwise", "islice", "zip_longest"},
    "collections": {"defaultdict", "deque"},
}
BARRED = (
    ast.AsyncFunctionDef, ast.AsyncFor, ast.AsyncWith, ast.Await, ast.Div, ast.MatMult, ast.TryStar,
)
DOCUMENTED = {
    "errors": "Refused Malformed Unknown Twice Misused Width Unbounded Undriven Driven Latched Circular Unbuildable "
              "Unsettled Uncovered NotACut Unsupported",
    "logic": "is_vector is_known is_refined to_number from_number least_width resize bit_not bit_and bit_or bit_xor "
             "reduce_and reduce_or reduce_xor negate add subtract multiply less less_equal equal not_equal same truth "
             "logic_not logic_and logic_or shift_left shift_right choose pick part join",
    "lexer": "tokenize is_name",
    "widths": "constant is_constant literal width_of",
    "tree": "size depth reads writes calls substitute",
    "parser": "parse_expression parse_target parse_block parse_statement expression",
    "items": "parse unit_named declared_names",
    "printer": "show_expression show_target show_statement show_units",
    "design": "Design",
    "flat": "elaborate design_of",
    "evaluate": "value places store assign run_when run_tick unknown",
    "events": "Choices Ready order",
    "simulate": "Simulation simulate",
    "graph": "Graph negated initial_state node_values step run run_resets compact",
    "circuits": "text_bits fit add_bits subtract_bits multiply_bits negate_bits less_than less_or_equal equal_bits "
                "shift_left shift_right reduce_and reduce_or reduce_xor choose_bits pick_bit store_bit expression_bits",
    "drivers": "target_bits expression_reads block_reads assigned_names check_sources build_order",
    "synth": "Machine bit_names Builder synthesize",
    "table": "full variable value_at complement cofactor support connect shrink",
    "cuts": "cuts cut_table cone private_cone",
    "rewrite": "table_cost build_tree gain is_irreducible rewritten",
    "cells": "Cell Library read_library library_text",
    "netlist": "Netlist run_netlist netlist_graph netlist_text read_netlist",
    "cover": "roots parts graph_price cover",
    "timing": "arrivals ends slacks least_period critical_path",
    "delays": "run_delayed changes",
    "clauses": "term_of graph_clauses is_true all_true",
    "refute": "check_step check_refutation",
    "solver": "solve",
    "unroll": "copy_into difference unroll rows_of",
    "certify": "are_classes joint certify",
    "compare": "refine compare",
    "flow": "Made build stimulus_rows output_vectors run_made run_timed",
}
METHODS = {
    "Design": "inputs outputs registers function_widths",
    "Choices": "choose",
    "Ready": "add take waiting __len__",
    "Simulation": "settle edge run_cycle",
    "Graph": "input_literal register_literal conjunction disjunction exclusive choice node_count set_next set_outputs",
    "Builder": "run_block call",
    "Cell": "output",
    "Library": "cell_named inverter is_complete bindings",
    "Netlist": "net_count first_register first_gate area initial_state net_values step",
}


def module_files():
    """The files of the package, by their full module names."""
    found = {}
    for folder, folders, names in os.walk(PACKAGE):
        folders[:] = sorted(name for name in folders if name != "__pycache__")
        for name in sorted(names):
            path = os.path.join(folder, name)
            module = os.path.relpath(path, ROOT).replace(os.sep, ".").removesuffix(".py").removesuffix(".__init__")
            found[module] = path
    return found


def source(path):
    with open(path, encoding="utf-8", newline="") as file:
        return file.read()


FILES = module_files()
TEXTS = {module: source(path) for module, path in FILES.items()}
TREES = {module: ast.parse(text) for module, text in TEXTS.items()}


def nodes(kind):
    return [(module, node) for module, tree in TREES.items() for node in ast.walk(tree) if isinstance(node, kind)]


def imported(module):
    return [node for node in ast.walk(TREES[module]) if isinstance(node, ast.ImportFrom)]


def bound(module):
    """The names that a file binds at module level, imports included."""
    found = []
    for node in TREES[module].body:
        if isinstance(node, ast.ImportFrom):
            found += [alias.asname or alias.name for alias in node.names]
        elif isinstance(node, (ast.FunctionDef, ast.ClassDef)):
            found.append(node.name)
        elif isinstance(node, ast.Assign):
            found += [target.id for target in node.targets]
        elif isinstance(node, ast.AnnAssign):
            found.append(node.target.id)
    return found


def local_names(function):
    """The names of the parameters and the local variables of a function."""
    arguments = function.args
    found = {argument.arg for argument in arguments.posonlyargs + arguments.args + arguments.kwonlyargs}
    return found | {
        node.id for node in ast.walk(function) if isinstance(node, ast.Name) and isinstance(node.ctx, ast.Store)
    }


class FilesTest(unittest.TestCase):
    def test_names_of_files(self):
        for module, path in FILES.items():
            self.assertRegex(os.path.basename(path), r"^[a-z0-9_]+\.py$")
            self.assertRegex(module, r"^clockwright(\.[a-z][a-z0-9_]*)*(\.__main__)?$")

    def test_characters_and_sizes(self):
        for module, text in TEXTS.items():
            self.assertTrue(set(text) <= set(map(chr, range(32, 127))) | {"\n"}, module)
            lines = text.splitlines()
            self.assertLessEqual(len(lines), 399, module)
            self.assertLessEqual(max(map(len, lines), default=0), 120, module)

    def test_sizes_of_functions(self):
        for module, function in nodes(ast.FunctionDef):
            self.assertLessEqual(function.end_lineno - function.lineno + 1, 40, (module, function.name))

    def test_words_that_are_not_used(self):
        for module, node in nodes(ast.AST):
            for field in ("id", "attr", "arg", "name"):
                self.assertNotIn(getattr(node, field, None), WORDS, module)

    def test_names(self):
        pattern = r"^(_|_?[A-Za-z][A-Za-z0-9_]*|__[a-z]+__)$"
        for module, node in nodes(ast.AST):
            for field in ("id", "attr", "arg", "name"):
                word = getattr(node, field, None)
                if isinstance(word, str) and not isinstance(node, ast.alias):
                    self.assertRegex(word, pattern, module)


class ModulesTest(unittest.TestCase):
    def test_the_interface_is_defined_in_its_files(self):
        for file, words in DOCUMENTED.items():
            body = TREES["clockwright." + file].body
            defined = [node.name for node in body if isinstance(node, (ast.FunctionDef, ast.ClassDef))]
            for word in words.split():
                self.assertIn(word, defined, file)

    def test_methods_are_defined_in_their_classes(self):
        classes = {node.name: node for _, node in nodes(ast.ClassDef)}
        for name, words in METHODS.items():
            defined = [node.name for node in classes[name].body if isinstance(node, ast.FunctionDef)]
            for word in words.split():
                self.assertIn(word, defined, name)

    def test_imports(self):
        for module, node in nodes(ast.Import):
            self.assertEqual((module, [alias.name for alias in node.names]), ("clockwright.__main__", ["sys"]))
        for module, node in nodes(ast.ImportFrom):
            self.assertEqual(node.level, 0, module)
            known = set(bound(node.module)) if node.module in TREES else LIBRARY.get(node.module, set())
            for alias in node.names:
                self.assertIn(alias.name, known, module)

    def test_imports_have_no_cycles(self):
        left = {module: {node.module for node in imported(module)} for module in TREES}
        while left:
            free = [module for module in left if not left[module] & set(left)]
            self.assertTrue(free, left)
            for module in free:
                del left[module]

    def test_each_name_is_bound_once(self):
        for module in TREES:
            names = bound(module)
            self.assertEqual(len(names), len(set(names)), module)

    def test_what_stands_at_module_level(self):
        allowed = (ast.ImportFrom, ast.FunctionDef, ast.ClassDef, ast.Assign, ast.AnnAssign)
        for module, tree in TREES.items():
            for node in tree.body:
                if isinstance(node, ast.Expr):
                    self.assertIsInstance(node.value, ast.Constant, module)
                elif not module.endswith("__main__"):
                    self.assertIsInstance(node, allowed, module)


class CodeTest(unittest.TestCase):
    def test_what_is_not_allowed_at_all(self):
        for module, node in nodes(BARRED):
            self.fail((module, type(node).__name__))
        for module, node in nodes(ast.Constant):
            self.assertNotIsInstance(node.value, (float, complex), (module, node.lineno))

    def test_builtins(self):
        for module, node in nodes(ast.Name):
            if hasattr(builtins, node.id) and node.id not in LOCAL_BUILTINS:
                self.assertIn(node.id, BUILTINS, (module, node.lineno))

    def test_no_local_name_hides_another_one(self):
        for module, function in nodes(ast.FunctionDef):
            taken = {alias.asname or alias.name for node in imported(module) for alias in node.names}
            taken |= {node.name for node in TREES[module].body if isinstance(node, ast.ClassDef)}
            found = local_names(function)
            self.assertEqual(found & taken, set(), (module, function.name))
            hidden = {word for word in found if hasattr(builtins, word)} - LOCAL_BUILTINS
            self.assertEqual(hidden, set(), (module, function.name))

    def test_handlers_name_errors(self):
        for module, node in nodes(ast.ExceptHandler):
            kinds = node.type.elts if isinstance(node.type, ast.Tuple) else [node.type]
            for kind in kinds:
                self.assertIsInstance(kind, ast.Name, module)
                self.assertNotIn(kind.id, ("Exception", "BaseException", "TypeError", "AttributeError", "RuntimeError"), module)

    def test_errors_are_created_on_the_spot(self):
        for module, node in nodes(ast.Raise):
            if node.exc is not None:
                self.assertIsInstance(node.exc, ast.Call, (module, node.lineno))
                self.assertIsInstance(node.exc.func, ast.Name, (module, node.lineno))

    def test_numbers_and_strings_are_not_compared_by_identity(self):
        for module, node in nodes(ast.Compare):
            for operator, side in zip(node.ops, node.comparators):
                if isinstance(operator, (ast.Is, ast.IsNot)) and isinstance(side, ast.Constant):
                    self.assertIn(side.value, (None, True, False), (module, node.lineno))

    def test_sets_stand_only_in_sorted_and_len(self):
        for module, tree in TREES.items():
            allowed = [node.args[0] for node in ast.walk(tree) if isinstance(node, ast.Call)
                       and isinstance(node.func, ast.Name) and node.func.id in ("sorted", "len")]
            for node in ast.walk(tree):
                if isinstance(node, ast.Call) and isinstance(node.func, ast.Name) and node.func.id in ("set", "frozenset"):
                    self.assertIn(node, allowed, (module, node.lineno))
                self.assertNotIsInstance(node, (ast.Set, ast.SetComp), module)

    def test_lists_are_not_sorted_in_place(self):
        for module, node in nodes(ast.Attribute):
            self.assertNotEqual(node.attr, "sort", (module, node.lineno))

    def test_tables_of_functions_are_called_by_a_name(self):
        for module, node in nodes(ast.Call):
            self.assertIsInstance(node.func, (ast.Name, ast.Attribute), (module, node.lineno))

    def test_exponents_are_literals(self):
        for module, node in nodes(ast.BinOp):
            if isinstance(node.op, ast.Pow):
                self.assertIsInstance(node.right, ast.Constant, (module, node.lineno))

    def test_loops_do_not_change_what_they_go_over(self):
        changing = ("append", "extend", "insert", "pop", "remove", "clear", "update", "setdefault", "reverse", "add")
        for module, loop in nodes(ast.For):
            names = {ast.unparse(node) for node in ast.walk(loop.iter) if isinstance(node, (ast.Name, ast.Attribute))}
            for node in [inner for line in loop.body for inner in ast.walk(line)]:
                if isinstance(node, ast.Attribute) and node.attr in changing:
                    self.assertNotIn(ast.unparse(node.value), names - {"self"}, (module, node.lineno))

    def test_strings(self):
        for module, node in nodes(ast.Constant):
            if isinstance(node.value, str):
                self.assertIsNone(re.search(r"\._{1,2}$", node.value), (module, node.lineno))


if __name__ == "__main__":
    unittest.main()
