import unittest

from clockwright.design import Design
from clockwright.flat import design_of

TEXT = """
    unit t() out q; reg r[2] = 2; in b[3]; wire w; in a; var v; reg s; out p[4];
    func g(x)[7] { give x; } func f(x) { give x; } w = a; when { v = w; } tick { s <- v; } tick {} end
"""


class DesignTest(unittest.TestCase):
    def test_an_empty_design_has_all_fields(self):
        design = design_of("unit t() end", top="t")
        self.assertIsInstance(design, Design)
        for name in ("names", "drives", "whens", "ticks"):
            self.assertEqual(getattr(design, name), [], name)
        for name in ("kind", "width", "reset", "functions"):
            self.assertEqual(getattr(design, name), {}, name)
        for method in (design.inputs, design.outputs, design.registers):
            self.assertEqual(method(), [])
        self.assertEqual(design.function_widths(), {})

    def test_fields(self):
        design = design_of(TEXT, top="t")
        self.assertEqual(design.kind, {
            "q": "out", "r": "reg", "b": "in", "w": "wire", "a": "in", "v": "var", "s": "reg", "p": "out",
        })
        self.assertEqual(design.width, {"q": 1, "r": 2, "b": 3, "w": 1, "a": 1, "v": 1, "s": 1, "p": 4})
        self.assertEqual(design.reset, {"r": "10", "s": "0"})
        self.assertEqual(design.drives, [(("ref", "w"), ("ref", "a"))])
        self.assertEqual(design.whens, [(("set", ("ref", "v"), ("ref", "w")),)])
        self.assertEqual(design.ticks, [(("next", ("ref", "s"), ("ref", "v")),), ()])
        self.assertEqual(design.functions["g"], ((("x", 1),), 7, (("give", ("ref", "x")),)))

    def test_lists_of_names(self):
        design = design_of(TEXT, top="t")
        self.assertEqual(design.names, ["q", "r", "b", "w", "a", "v", "s", "p"])
        self.assertEqual(design.inputs(), ["b", "a"])
        self.assertEqual(design.outputs(), ["q", "p"])
        self.assertEqual(design.registers(), ["r", "s"])

    def test_function_widths(self):
        self.assertEqual(design_of(TEXT, top="t").function_widths(), {"g": 7, "f": 1})

    def test_results_are_new(self):
        design = design_of(TEXT, top="t")
        for method in (design.inputs, design.outputs, design.registers, design.function_widths):
            first = method()
            first.clear()
            self.assertTrue(method())

    def test_methods_stand_in_the_class_itself(self):
        for name in ("inputs", "outputs", "registers", "function_widths"):
            self.assertIn(name, vars(Design))


if __name__ == "__main__":
    unittest.main()
