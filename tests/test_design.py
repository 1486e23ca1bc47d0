import unittest

from clockwright.design import Design
from clockwright.flat import design_of

TEXT = """
    unit t() out q; reg r[2] = 2; in b[3]; wire w; in a; var v; reg s; out p[4];
    func g(x)[7] { give x; } func f(x) { give x; } end
"""


class DesignTest(unittest.TestCase):
    def test_a_new_design_has_all_fields(self):
        design = Design()
        self.assertEqual(vars(design), {
            "names": [], "kind": {}, "width": {}, "reset": {}, "drives": [], "whens": [], "ticks": [], "functions": {},
        })
        self.assertIsNot(design.names, Design().names)

    def test_lists_of_names(self):
        design = design_of(TEXT, top="t")
        self.assertEqual(design.names, ["q", "r", "b", "w", "a", "v", "s", "p"])
        self.assertEqual(design.inputs(), ["b", "a"])
        self.assertEqual(design.outputs(), ["q", "p"])
        self.assertEqual(design.registers(), ["r", "s"])

    def test_function_widths(self):
        self.assertEqual(design_of(TEXT, top="t").function_widths(), {"g": 7, "f": 1})
        self.assertEqual(Design().function_widths(), {})

    def test_results_are_new(self):
        design = design_of(TEXT, top="t")
        for method in (design.inputs, design.outputs, design.registers, design.function_widths):
            first = method()
            first.clear()
            self.assertTrue(method())

    def test_methods_stand_in_the_class_itself(self):
        for name in ("inputs", "outputs", "registers", "function_widths"):
            self.assertIn(name, vars(Design))


if __name__ == "__main__":
    unittest.main()
