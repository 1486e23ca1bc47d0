import copy
import itertools
import unittest

from clockwright import logic
from clockwright.design import Design
from clockwright.evaluate import assign, places, run_tick, run_when, store, unknown, value
from clockwright.flat import design_of
from clockwright.widths import width_of
from helpers import A, B, C, ref

UNARY = {
    "not": logic.bit_not, "neg": logic.negate, "lnot": logic.logic_not,
    "redand": logic.reduce_and, "redor": logic.reduce_or, "redxor": logic.reduce_xor,
}
BINARY = {
    "and": logic.bit_and, "or": logic.bit_or, "xor": logic.bit_xor,
    "add": logic.add, "sub": logic.subtract, "mul": logic.multiply,
    "shl": logic.shift_left, "shr": logic.shift_right,
    "lt": logic.less, "le": logic.less_equal, "eq": logic.equal, "ne": logic.not_equal, "same": logic.same,
    "land": logic.logic_and, "lor": logic.logic_or,
}


def vectors(*widths):
    return ["".join(bits) for width in widths for bits in itertools.product("01xz", repeat=width)]


def lit(vector):
    return ("lit", vector)


def design_with(text):
    return design_of(f"unit t() {text} end", top="t")


def value_in(expression, **values):
    return value(Design(), values, expression)


class ExpressionsTest(unittest.TestCase):
    def test_literals_and_names(self):
        self.assertEqual(value_in(lit("0xz1")), "0xz1")
        self.assertEqual(value_in(A, a="z1", b="0"), "z1")

    def test_heads_with_one_operand(self):
        for head, operation in UNARY.items():
            for a in vectors(1, 2, 3):
                self.assertEqual(value_in((head, A), a=a), operation(a), (head, a))

    def test_heads_with_two_operands_of_any_widths(self):
        for head, operation in BINARY.items():
            for a in vectors(1, 2):
                for b in vectors(1, 2, 3):
                    self.assertEqual(value_in((head, A, B), a=a, b=b), operation(a, b), (head, a, b))

    def test_mux(self):
        for a in vectors(1, 2):
            for b, c in (("1x", "0"), ("10", "10"), ("z", "101"), ("x0z1", "x0z1"), ("0", "1")):
                self.assertEqual(value_in(("mux", A, B, C), a=a, b=b, c=c), logic.choose(a, b, c))

    def test_order_of_operands(self):
        self.assertEqual(value_in(("sub", A, B), a="111", b="001"), "110")
        self.assertEqual(value_in(("shl", A, B), a="0001", b="10"), "0100")
        self.assertEqual(value_in(("mux", A, B, C), a="1", b="10", c="01"), "10")
        self.assertEqual(value_in(("lt", A, B), a="0", b="1"), "1")

    def test_pick(self):
        for index, bit in (("0", "z"), ("00", "z"), ("01", "1"), ("10", "0"), ("11", "0"), ("111", "0"),
                           ("1" * 64, "0"), ("0x", "x"), ("z0", "x"), ("x", "x")):
            self.assertEqual(value_in(("pick", "a", B), a="01z", b=index), bit, index)
            self.assertEqual(value_in(("pick", "a", lit(index)), a="01z"), bit, index)
        self.assertEqual(value_in(("pick", "a", lit("0")), a="x"), "x")
        self.assertEqual(value_in(("pick", "a", lit("1")), a="1"), "0")

    def test_part(self):
        for high, low, found in ((3, 0, "1x0z"), (3, 3, "1"), (0, 0, "z"), (2, 1, "x0")):
            self.assertEqual(value_in(("part", "a", high, low), a="1x0z"), found)

    def test_cat_and_rep(self):
        self.assertEqual(value_in(("cat", (A, lit("z"), B)), a="10", b="x01"), "10zx01")
        self.assertEqual(value_in(("cat", (A,)), a="10"), "10")
        self.assertEqual(value_in(("rep", 3, A), a="1z"), "1z1z1z")
        self.assertEqual(value_in(("rep", 1, A), a="0"), "0")
        self.assertEqual(value_in(("rep", 64, A), a="x"), "x" * 64)

    def test_nested(self):
        tree = ("add", ("cat", (A, B)), ("mux", ("redor", B), lit("101"), ("not", A)))
        self.assertEqual(value_in(tree, a="10", b="01"), logic.add("1001", "101"))
        self.assertEqual(value_in(tree, a="10", b="00"), logic.add("1000", "01"))

    def test_the_width_is_that_of_the_expression(self):
        values = {"a": "1x0", "b": "10", "c": "1"}
        widths = {name: len(values[name]) for name in values}
        trees = [(head, A) for head in UNARY] + [(head, x, y) for head in BINARY for x in (A, C) for y in (B, A)]
        trees += [("mux", C, A, B), ("mux", A, C, B), ("pick", "a", B), ("part", "a", 2, 1), ("rep", 4, B)]
        for tree in trees:
            self.assertEqual(len(value(Design(), values, tree)), width_of(tree, widths=widths, functions={}), tree)

    def test_values_do_not_change(self):
        values = {"a": "1x", "b": "0"}
        value(Design(), values, ("add", A, ("not", B)))
        self.assertEqual(values, {"a": "1x", "b": "0"})

    def test_unknown(self):
        self.assertEqual((unknown(1), unknown(3), unknown(64)), ("x", "xxx", "x" * 64))


class CallsTest(unittest.TestCase):
    def call(self, functions, name, *arguments, signals=""):
        design = design_with(functions + signals)
        before = copy.deepcopy(vars(design))
        values = {"x": "1", "a": "1z"}
        found = value(design, values, ("call", name, tuple(map(lit, arguments))))
        self.assertEqual(vars(design), before)
        self.assertEqual(values, {"x": "1", "a": "1z"})
        return found

    def test_arguments_are_resized(self):
        function = "func f(x[2], y[4])[6] { give {x, y}; }"
        self.assertEqual(self.call(function, "f", "1", "1"), "010001")
        self.assertEqual(self.call(function, "f", "x10", "1z0x1"), "10z0x1")

    def test_the_result_is_resized(self):
        self.assertEqual(self.call("func f(x[3])[2] { give x; }", "f", "z01"), "01")
        self.assertEqual(self.call("func f(x[3])[5] { give x; }", "f", "z01"), "00z01")
        self.assertEqual(self.call("func f(x[3]) { give x; }", "f", "110"), "0")

    def test_order_of_arguments(self):
        self.assertEqual(self.call("func f(x[3], y[3])[3] { give x - y; }", "f", "101", "001"), "100")

    def test_set_changes_parameters(self):
        function = "func f(x[3], y[3])[6] { x = y + 1; y[0] = 0; {x[2:1], y[2]} = 5; give {x, y}; }"
        self.assertEqual(self.call(function, "f", "000", "011"), "100110")

    def test_if(self):
        function = "func f(x[2], y)[3] { if x { y = 1; } else { x = 2; if y { x = 3; } } give {x, y}; }"
        self.assertEqual(self.call(function, "f", "01", "0"), "011")
        self.assertEqual(self.call(function, "f", "00", "0"), "100")
        self.assertEqual(self.call(function, "f", "00", "1"), "111")
        # an unknown condition takes the second block
        self.assertEqual(self.call(function, "f", "0x", "x"), "10x")

    def test_case(self):
        function = "func f(x[2])[2] { case x { 0, 1: { x = 3; } 2'bx0: { x = 1; } else { x = x + 1; } } give x; }"
        for argument, result in (("00", "11"), ("01", "11"), ("10", "11"), ("11", "00"), ("x0", "01"), ("0x", "xx")):
            self.assertEqual(self.call(function, "f", argument), result)

    def test_loops(self):
        function = "func f(x[4])[4] { loop i in 0..3 { x[i] = x[i] ^ x[i + 1]; } give x; }"
        self.assertEqual(self.call(function, "f", "1010"), "1111")

    def test_functions_that_call_functions(self):
        functions = """func f(x[2])[3] { x = x + 1; give x * 2; }
            func g(y[2], x[3])[4] { y = f(y); give f(x) + {f(y), 1'b1}; }"""
        # f(01) is 100, cut to the two bits of y; then f(11) is 000 and f(00) is 010
        self.assertEqual(self.call(functions, "g", "01", "111"), "0101")

    def test_the_parameters_alone_are_seen(self):
        function = "func f(x[2], b[2])[3] { x = x + 1; b = x; give {b, x[0]}; }"
        signals = "in a[2]; reg x; tick { x <- 0; }"
        self.assertEqual(self.call(function, "f", "10", "zz", signals=signals), "111")

    def test_a_call_inside_an_expression(self):
        design = design_with("in a[2]; func f(x[2])[4] { give x; }")
        tree = ("add", ("call", "f", (("not", A),)), ("call", "f", (("call", "f", (A,)),)))
        self.assertEqual(value(design, {"a": "01"}, tree), "0011")


class PlacesTest(unittest.TestCase):
    def setUp(self):
        self.values = {"a": "1x0", "i": "x1", "q": "000", "n": "10", "w": "0" * 64}

    def places(self, target, vector, **values):
        given = {**self.values, **values}
        before = dict(given)
        found = places(Design(), given, target, vector)
        self.assertEqual(given, before)
        return found

    def test_the_example(self):
        design = design_with("in a[3]; in i[2]; reg q[3];")
        target = ("cat", (ref("i"), ("pick", "q", ref("i"))))
        values = {"a": "1x0", "i": "x1", "q": "000"}
        self.assertEqual(places(design, values, target, "101"), [(("i", 1, 0), "10"), (("q", 2, 0), "xxx")])

    def test_names(self):
        self.assertEqual(self.places(ref("q"), "1xz"), [(("q", 2, 0), "1xz")])
        self.assertEqual(self.places(ref("q"), "z"), [(("q", 2, 0), "00z")])
        self.assertEqual(self.places(ref("q"), "1010"), [(("q", 2, 0), "010")])
        self.assertEqual(self.places(ref("w"), "1"), [(("w", 63, 0), "0" * 63 + "1")])

    def test_parts(self):
        self.assertEqual(self.places(("part", "q", 2, 1), "01"), [(("q", 2, 1), "01")])
        self.assertEqual(self.places(("part", "q", 0, 0), "zx"), [(("q", 0, 0), "x")])
        self.assertEqual(self.places(("part", "q", 2, 0), "1"), [(("q", 2, 0), "001")])

    def test_picks_with_a_known_index(self):
        for index, place in (("0", 0), ("01", 1), ("10", 2), ("0010", 2)):
            self.assertEqual(self.places(("pick", "q", lit(index)), "01"), [(("q", place, place), "1")])
        self.assertEqual(self.places(("pick", "q", ref("n")), "x"), [(("q", 2, 2), "x")])

    def test_picks_with_an_index_that_is_too_great(self):
        for index in ("11", "100", "1" * 64):
            self.assertEqual(self.places(("pick", "q", lit(index)), "1"), [], index)

    def test_picks_with_an_unknown_index(self):
        for index in ("x", "z", "1x1", "x00000000"):
            self.assertEqual(self.places(("pick", "q", lit(index)), "1"), [(("q", 2, 0), "xxx")])
        self.assertEqual(self.places(("pick", "q", ref("i")), "11"), [(("q", 2, 0), "xxx")])

    def test_cat(self):
        target = ("cat", (ref("q"), ("part", "a", 1, 0), ("pick", "w", lit("111"))))
        self.assertEqual(self.places(target, "101xz1"), [(("q", 2, 0), "101"), (("a", 1, 0), "xz"), (("w", 7, 7), "1")])
        self.assertEqual(self.places(target, "1"), [(("q", 2, 0), "000"), (("a", 1, 0), "00"), (("w", 7, 7), "1")])
        self.assertEqual(self.places(target, "11" + "101xz1"), self.places(target, "101xz1"))

    def test_nested_cat(self):
        target = ("cat", (("cat", (("pick", "q", lit("0")),)), ("cat", (("cat", (ref("n"), ref("i"))), ref("a")))))
        self.assertEqual(self.places(target, "10011xz0"), [
            (("q", 0, 0), "1"), (("n", 1, 0), "00"), (("i", 1, 0), "11"), (("a", 2, 0), "xz0"),
        ])

    def test_a_pick_without_a_place_inside_cat_takes_its_bit(self):
        target = ("cat", (ref("n"), ("pick", "q", lit("11")), ref("i")))
        self.assertEqual(self.places(target, "10011"), [(("n", 1, 0), "10"), (("i", 1, 0), "11")])

    def test_indexes_are_read_before_anything_changes(self):
        target = ("cat", (ref("n"), ("pick", "q", ref("n"))))
        self.assertEqual(self.places(target, "001"), [(("n", 1, 0), "00"), (("q", 2, 2), "1")])


class StoreTest(unittest.TestCase):
    def test_store(self):
        for place, vector, found in ((("q", 3, 0), "1xz1", "1xz1"), (("q", 0, 0), "1", "0001"),
                                     (("q", 3, 3), "z", "z000"), (("q", 2, 1), "11", "0110")):
            values = {"a": "1", "q": "0000"}
            self.assertIs(store(values, place, vector), True)
            self.assertEqual(values, {"a": "1", "q": found})

    def test_whether_a_bit_changed(self):
        values = {"q": "01xz"}
        for place, vector in ((("q", 3, 0), "01xz"), (("q", 1, 1), "x"), (("q", 0, 0), "z"), (("q", 3, 2), "01")):
            self.assertIs(store(values, place, vector), False)
        self.assertEqual(values, {"q": "01xz"})
        for vector, changed in (("z", True), ("z", False), ("x", True), ("0", True), ("0", False)):
            self.assertIs(store(values, ("q", 1, 1), vector), changed)
        self.assertEqual(values, {"q": "010z"})

    def assign(self, target, vector, **values):
        return (assign(Design(), values, target, vector), values)

    def test_assign(self):
        self.assertEqual(self.assign(A, "1", a="000"), (["a"], {"a": "001"}))
        self.assertEqual(self.assign(A, "1001", a="001"), ([], {"a": "001"}))
        self.assertEqual(self.assign(("pick", "a", lit("1")), "1", a="0x0"), (["a"], {"a": "010"}))
        self.assertEqual(self.assign(("pick", "a", lit("11")), "1", a="0x0"), ([], {"a": "0x0"}))
        self.assertEqual(self.assign(("pick", "a", B), "1", a="010", b="z"), (["a"], {"a": "xxx", "b": "z"}))

    def test_names_are_in_ascending_order(self):
        target = ("cat", (ref("u.b"), ref("z"), ref("i[1].w"), ref("a"), ref("Z")))
        found, values = self.assign(target, "11011", **{"u.b": "0", "z": "0", "i[1].w": "0", "a": "0", "Z": "z"})
        self.assertEqual(found, ["Z", "a", "u.b", "z"])
        self.assertEqual(values["i[1].w"], "0")

    def test_the_last_of_several_places_counts(self):
        target = ("cat", (A, B, A))
        self.assertEqual(self.assign(target, "110", a="0", b="1"), ([], {"a": "0", "b": "1"}))
        self.assertEqual(self.assign(target, "001", a="0", b="0"), (["a"], {"a": "1", "b": "0"}))
        target = ("cat", (("pick", "a", lit("1")), A))
        self.assertEqual(self.assign(target, "101", a="00"), (["a"], {"a": "01"}))

    def test_indexes_are_evaluated_before_the_places_change(self):
        target = ("cat", (B, ("pick", "a", B)))
        self.assertEqual(self.assign(target, "11", a="00", b="0"), (["a", "b"], {"a": "01", "b": "1"}))


class StatementsTest(unittest.TestCase):
    def run_when(self, block, **values):
        design = design_with(f"in a[2]; in b[2]; in c; var v[4]; var w[2]; when {block}")
        given = {"a": "00", "b": "00", "c": "0", "v": "0000", "w": "00", **values}
        changed = run_when(design, given, design.whens[0])
        return changed, given["v"], given["w"]

    def run_tick(self, block, **values):
        design = design_with(f"in a[2]; in b[2]; in c; reg v[4]; reg w[2]; tick {block}")
        given = {"a": "00", "b": "00", "c": "0", "v": "0000", "w": "00", **values}
        before = dict(given)
        found = run_tick(design, given, design.ticks[0])
        self.assertEqual(given, before)
        return found

    def test_statements_run_in_order(self):
        self.assertEqual(self.run_when("{ v = 3; v = v + 1; w = v; }"), (["v"], "0100", "00"))
        self.assertEqual(self.run_when("{ v = 3; w = v; v[3:2] = w; }"), (["v", "w"], "1111", "11"))
        self.assertEqual(self.run_when("{ }"), ([], "0000", "00"))

    def test_names_that_change_and_change_back(self):
        self.assertEqual(self.run_when("{ v = 1; w = 1; v = 0; }"), (["w"], "0000", "01"))
        self.assertEqual(self.run_when("{ v = 4'b000x; }", v="000x"), ([], "000x", "00"))
        self.assertEqual(self.run_when("{ w = 0; v = 0; }", v="000z", w="x0"), (["v", "w"], "0000", "00"))

    def test_an_index_that_the_same_statement_changes(self):
        self.assertEqual(self.run_when("{ {w, v[w]} = 5; }", w="01"), (["v", "w"], "0010", "10"))
        self.assertEqual(self.run_when("{ v[v[1:0]] = 1; v[v[1:0]] = 1; }"), (["v"], "0011", "00"))

    def test_the_expression_is_evaluated_first(self):
        self.assertEqual(self.run_when("{ {v[1:0], v[3:2]} = v; }", v="1001"), (["v"], "0110", "00"))

    def test_if(self):
        for a, found in (("00", "0010"), ("01", "0001"), ("10", "0001"), ("1x", "0001"), ("x0", "0010"), ("0z", "0010")):
            self.assertEqual(self.run_when("{ if a { v = 1; } else { v = 2; } }", a=a), (["v"], found, "00"))
        self.assertEqual(self.run_when("{ if a { v = 1; } }", a="xx"), ([], "0000", "00"))
        block = "{ if a { v = 1; } else if b { v = 2; if c { w = 3; } } else { v = 3; } }"
        self.assertEqual(self.run_when(block, b="01", c="1"), (["v", "w"], "0010", "11"))
        self.assertEqual(self.run_when(block, b="0x", c="1"), (["v"], "0011", "00"))

    def test_case_with_vectors_of_other_widths(self):
        block = "{ case a { 3'b101: { v = 1; } 1: { v = 2; } 4'b0010: { v = 3; } } }"
        self.assertEqual(self.run_when(block, a="01"), (["v"], "0010", "00"))
        self.assertEqual(self.run_when(block, a="10"), (["v"], "0011", "00"))
        self.assertEqual(self.run_when(block, a="00"), ([], "0000", "00"))

    def test_case_with_unknown_vectors(self):
        block = "{ case a { 2'b0x, 1'bz: { v = 1; } 2'bxx, 2'bz1: { v = 2; } 1'bx: { v = 3; } else { v = 4; } } }"
        for a, found in (("0x", "0001"), ("0z", "0001"), ("xx", "0010"), ("z1", "0010"), ("x1", "0100"), ("00", "0100")):
            self.assertEqual(self.run_when(block, a=a), (["v"], found, "00"))

    def test_the_first_arm_that_fits_runs_alone(self):
        block = "{ case a { 0, 1: { v = 1; } 1, 2: { v = 2; } 2: { v = 3; } else { v = 4; w = 1; } } }"
        for a, found in (("00", "0001"), ("01", "0001"), ("10", "0010")):
            self.assertEqual(self.run_when(block, a=a), (["v"], found, "00"))
        self.assertEqual(self.run_when(block, a="11"), (["v", "w"], "0100", "01"))

    def test_no_arm_that_fits(self):
        self.assertEqual(self.run_when("{ case a { 1: { v = 1; } } v[3] = 1; }"), (["v"], "1000", "00"))
        self.assertEqual(self.run_when("{ case a { else { v = 1; } } }", a="1x"), (["v"], "0001", "00"))

    def test_the_expression_of_a_case_is_evaluated_once(self):
        block = "{ case v { 0: { v = 1; } 1: { v = 2; } else { v = 3; } } }"
        self.assertEqual(self.run_when(block), (["v"], "0001", "00"))

    def test_next_records_and_changes_nothing(self):
        self.assertEqual(self.run_tick("{ v <- v + 1; v <- v + 2; }"), [(("v", 3, 0), "0001"), (("v", 3, 0), "0010")])
        self.assertEqual(self.run_tick("{ }"), [])
        self.assertEqual(self.run_tick("{ w <- w; }", w="x1"), [(("w", 1, 0), "x1")])

    def test_next_with_each_form_of_target(self):
        found = self.run_tick("{ {v[w], v[3:2], w} <- 27; v[a] <- 1; v[b] <- 1; }", w="10", a="11", b="x0")
        self.assertEqual(found, [
            (("v", 2, 2), "1"), (("v", 3, 2), "10"), (("w", 1, 0), "11"), (("v", 3, 3), "1"), (("v", 3, 0), "xxxx"),
        ])
        found = self.run_tick("{ w[a] <- 1; }", a="10")
        self.assertEqual(found, [])

    def test_next_inside_if_and_case(self):
        block = "{ if c { v <- 1; } else { case a { 2: { w <- 2; v <- 2; } else { v <- 3; } } } w[0] <- c; }"
        self.assertEqual(self.run_tick(block, c="1"), [(("v", 3, 0), "0001"), (("w", 0, 0), "1")])
        self.assertEqual(self.run_tick(block, c="x", a="10"), [
            (("w", 1, 0), "10"), (("v", 3, 0), "0010"), (("w", 0, 0), "x"),
        ])
        self.assertEqual(self.run_tick(block, a="1z"), [(("v", 3, 0), "0011"), (("w", 0, 0), "0")])


if __name__ == "__main__":
    unittest.main()
