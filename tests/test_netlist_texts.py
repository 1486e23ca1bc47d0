import unittest

from clockwright.cells import read_library
from clockwright.netlist import Netlist, netlist_text, read_netlist
from drawn_netlists import drawn_library, drawn_netlist, netlist_fields
from helpers import failure

LIBRARY = read_library("flop 1 2\ncell inv 10 2 1\ncell nand 1110 3 2 2\ncell a1b2C3d4E5f6 10000000 4 1 1 1\n")
TEXT = "inputs 2\nregister 6 1\ngate nand 2 3\ngate inv 5\noutput 5\noutput 4\n"


def read(text):
    return read_netlist(text, LIBRARY)


class TextsTest(unittest.TestCase):
    def test_the_example(self):
        netlist = read(TEXT)
        self.assertIs(netlist.library, LIBRARY)
        self.assertEqual(netlist_fields(netlist), (2, [(6, 1)], [(1, (2, 3)), (0, (5,))], [5, 4]))

    def test_good_texts(self):
        texts = (
            "inputs 0\n", "inputs 999999\n", "inputs 1\noutput 0\n", "inputs 0\noutput 1\noutput 1\noutput 0\n",
            "inputs 0\nregister 0 0\n", "inputs 3\nregister 4 1\nregister 6 0\nregister 6 1\n",
            "inputs 0\ngate inv 0\n", "inputs 0\ngate inv 1\ngate nand 2 2\ngate a1b2C3d4E5f6 0 3 1\n",
            "inputs 999997\nregister 999999 0\noutput 999999\n", "inputs 999998\ngate inv 999999\n", TEXT,
        )
        for text in texts:
            self.assertEqual(netlist_text(read(text)), text)

    def test_registers_and_outputs_may_stand_before_their_nets(self):
        netlist = read("inputs 0\nregister 4 0\nregister 3 1\ngate inv 2\noutput 4\n")
        self.assertEqual(netlist_fields(netlist), (0, [(4, 0), (3, 1)], [(0, (2,))], [4]))

    def test_drawn_netlists(self):
        for seed in range(40):
            library = drawn_library(seed, cells=1 + seed % 8)
            netlist = drawn_netlist(seed, library, inputs=seed % 4, registers=seed % 3, gates=seed, outputs=seed % 5)
            before = netlist_fields(netlist)
            text = netlist_text(netlist)
            again = read_netlist(text, library)
            self.assertIs(again.library, library)
            self.assertEqual((netlist_fields(netlist), netlist_fields(again)), (before, before))
            self.assertEqual(netlist_text(again), text)

    def test_numbers_of_kinds(self):
        netlist = read(TEXT)
        self.assertIsInstance(netlist.inputs, int)
        self.assertIsInstance(netlist.gates[0][1], tuple)
        self.assertIsInstance(netlist.registers[0], tuple)


class MalformedTest(unittest.TestCase):
    def check(self, text, at):
        self.assertEqual(failure(read, text), ("Malformed", at), text)

    def check_line(self, line, start="inputs 2\n"):
        """A line that is wrong behind right ones, also if right ones follow."""
        self.check(start + line + "\n", len(start))
        self.check(start + line + "\noutput 0\n", len(start))
        if line:
            self.check(start + line, len(start))

    def test_an_empty_text(self):
        self.check("", 0)
        self.check("\n", 0)
        self.check(" ", 0)
        self.check("\n" + TEXT, 0)

    def test_a_missing_newline(self):
        self.check("inputs 2", 0)
        self.check(TEXT[:-1], len(TEXT) - 9)
        self.check("inputs 2\nregister 2 0", 9)
        self.check("inputs 2\ngate inv 2", 9)
        self.check("inputs 2\ngate or 2", 9)
        self.check("inputs 2\n ", 9)
        self.check("inputs 2\n\n", 9)

    def test_the_first_line(self):
        for line in ("inputs", "inputs ", "inputs 1 1", "inputs 01", "inputs 00", "inputs -1", "inputs +1", "inputs x",
                     "inputs 1000000", "inputs 0000001", "inputs " + "9" * 6000, " inputs 1", "inputs  1", "inputs 1 ",
                     "inputs\t1", "Inputs 1", "input 1", "inputs 1_0", "inputs 1\r", "inputs \u0661", "register 0 0",
                     "output 0", "gate inv 0", "flop 1 1"):
            self.check(line + "\n", 0)
            self.check(line + "\noutput 0\n", 0)

    def test_registers(self):
        for line in ("register", "register 0", "register 0 0 0", "register 0 2", "register 0 00", "register 0 01",
                     "register 00 0", "register 1000000 0", "register 0000001 0", "register x 0", "register 0 x",
                     "register 0 -1", "register -1 0", " register 0 0", "register  0 0", "register 0  0", "register 0 0 ",
                     "Register 0 0", "reg 0 0", "register 0,0"):
            self.check_line(line)
            self.check_line(line, "inputs 1\nregister 2 0\n")

    def test_gates(self):
        for line in ("gate", "gate inv", "gate inv ", "gate 2", "gate  inv 2", "gate inv  2", "gate inv 2 ", " gate inv 2",
                     "Gate inv 2", "cell inv 2", "gate inv x", "gate inv 02", "gate inv 00", "gate inv -1",
                     "gate inv 1000000", "gate inv 0000002", "gate nand 2 x", "gate nand 2 02", "gate nand x 2"):
            self.check_line(line)
            self.check_line(line, "inputs 1\nregister 2 0\ngate inv 0\n")

    def test_names_of_gates(self):
        for name in ("1inv", "_a", "a_b", "a-b", "abcdefghijklm", "\u00e9", "", "2"):
            self.check_line(f"gate {name} 2")

    def test_outputs(self):
        for line in ("output", "output ", "output 0 0", "output 00", "output 01", "output -1", "output x",
                     "output 1000000", "output 0000001", " output 0", "output  0", "output 0 ", "Output 0", "outputs 0"):
            self.check_line(line)
            self.check_line(line, "inputs 1\nregister 2 0\ngate inv 0\noutput 3\n")

    def test_other_lines(self):
        for line in ("", " ", "#", "inv 2", "end", "0", "inputs"):
            self.check_line(line)

    def test_lines_out_of_order(self):
        head = "inputs 2\n"
        register, gate, output = "register 2 0\n", "gate inv 2\n", "output 2\n"
        for wrong in ("inputs 2\n",):
            for start in (head, head + register, head + register + gate, head + gate + output, head + output):
                self.check(start + wrong, len(start))
        for start in (head + gate, head + output, head + register + gate, head + gate + output):
            self.check(start + register, len(start))
            self.check(start + register + output, len(start))
        for start in (head + output, head + register + output, head + register + gate + output):
            self.check(start + gate, len(start))

    def test_the_number_of_pins(self):
        for line in ("gate inv 2 2", "gate nand 2", "gate nand 2 2 2", "gate inv 2 2 2 2 2", "gate a1b2C3d4E5f6 2 2"):
            self.check_line(line)

    def test_pins_are_earlier_nets(self):
        start = "inputs 2\nregister 2 0\ngate inv 4\n"
        self.check_line("gate inv 6", start)
        self.check_line("gate inv 999999", start)
        self.check_line("gate nand 5 6", start)
        self.check_line("gate nand 6 5", start)
        self.assertEqual(read(start + "gate nand 5 4\n").gates, [(0, (4,)), (1, (5, 4))])
        self.check("inputs 2\ngate inv 4\n", 9)
        self.check("inputs 2\ngate inv 5\ngate inv 3\n", 9)


class EndsTest(unittest.TestCase):
    def check(self, text, wrong):
        self.assertEqual(failure(read, text), ("Malformed", text.index(wrong)), text)

    def test_nets_that_do_not_exist(self):
        self.check("inputs 2\nregister 5 0\n", "register 5")
        self.check("inputs 2\noutput 4\n", "output 4")
        self.check("inputs 2\nregister 4 0\nregister 5 0\ngate inv 1\noutput 7\n", "output 7")
        self.check("inputs 2\nregister 4 0\nregister 999999 0\noutput 1\n", "register 999999")
        self.assertIsNone(failure(read, "inputs 2\nregister 4 0\nregister 6 0\ngate inv 1\noutput 6\n"))

    def test_the_first_one(self):
        self.check("inputs 2\nregister 7 0\nregister 8 0\n", "register 7")
        self.check("inputs 2\noutput 3\noutput 7\noutput 8\n", "output 7")

    def test_registers_come_before_outputs(self):
        self.check("inputs 2\nregister 7 0\noutput 8\noutput 9\n", "register 7")
        self.check("inputs 2\nregister 2 0\noutput 8\n", "output 8")

    def test_all_lines_come_before_the_ends(self):
        self.check("inputs 2\nregister 7 0\noutput 8\nout\n", "out\n")
        self.check("inputs 2\nregister 7 0\noutput 8\noutput 1", "output 1")
        self.assertEqual(failure(read, "inputs 2\nregister 7 0\ngate or 2 2\n"), ("Unknown", "or"))


class OtherErrorsTest(unittest.TestCase):
    def test_unknown_cells(self):
        for name in ("or", "Inv", "i", "inv2"):
            self.assertEqual(failure(read, f"inputs 2\ngate inv 2\ngate {name} 2\n"), ("Unknown", name))

    def test_unknown_comes_behind_the_form_and_before_the_pins(self):
        self.assertEqual(failure(read, "inputs 2\ngate or 02\n"), ("Malformed", 9))
        self.assertEqual(failure(read, "inputs 2\ngate or\n"), ("Malformed", 9))
        self.assertEqual(failure(read, "inputs 2\ngate or 9 9\n"), ("Unknown", "or"))
        self.assertEqual(failure(read, "inputs 2\noutput 2\ngate or 2\n"), ("Malformed", 18))

    def test_an_earlier_line_comes_first(self):
        self.assertEqual(failure(read, "inputs 2\ngate or 2\ngate inv 9\n"), ("Unknown", "or"))
        self.assertEqual(failure(read, "inputs 2\ngate inv 9\ngate or 2\n"), ("Malformed", 9))
        self.assertEqual(failure(read, "inputs 02\ngate or 2\n"), ("Malformed", 0))

    def test_the_number_of_gates(self):
        text = "inputs 2\n" + "gate inv 2\n" * 20000
        self.assertEqual(len(read(text).gates), 20000)
        self.assertEqual(failure(read, text + "gate nand 2 20003\n"), ("Unbounded", "gates"))
        self.assertEqual(failure(read, text + "gate inv 2\ngate\n"), ("Unbounded", "gates"))
        self.assertEqual(failure(read, text + "gate or 2\n"), ("Unknown", "or"))
        for line in ("gate inv 20004", "gate inv 2 2", "gate inv", "gate inv 2", "output x"):
            expected = ("Unbounded", "gates") if line == "gate inv 2" else ("Malformed", len(text))
            self.assertEqual(failure(read, text + line + "\n"), expected)
        self.assertEqual(failure(read, text + "gate inv 2"), ("Malformed", len(text)))


class WrittenTest(unittest.TestCase):
    def test_the_text_of_a_netlist_without_anything(self):
        self.assertEqual(netlist_text(Netlist(LIBRARY, 0, [], [], [])), "inputs 0\n")

    def test_the_order_of_the_lines(self):
        netlist = Netlist(LIBRARY, 1, [(5, 0), (2, 1)], [(2, (0, 1, 4)), (0, (3,))], [6, 0])
        self.assertEqual(netlist_text(netlist), "inputs 1\nregister 5 0\nregister 2 1\n"
                         "gate a1b2C3d4E5f6 0 1 4\ngate inv 3\noutput 6\noutput 0\n")


if __name__ == "__main__":
    unittest.main()
