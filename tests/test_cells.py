import itertools
import random
import unittest

from clockwright.cells import Cell, Library, library_text, read_library
from clockwright.table import complement, connect
from helpers import failure

TEXT = "flop 1 2\ncell inv 10 2 1\ncell nand 1110 3 2 2\n"
LARGE = """flop 99 0
cell Inv1 10 4 1
cell x 01 3 2
cell inv2 10 2 99
cell INV 10 2 1
cell and2 0001 5 3 4
cell mux 00110101 9999 1 2 3
cell a1b2C3d4E5f6 0110100110010110 10 4 30 2 1
"""


def fields(library):
    cells = [(cell.name, cell.table, cell.pins, cell.area, cell.delays) for cell in library.cells]
    return cells, library.setup, library.flop_delay


def library_of(*lines):
    return read_library("flop 1 1\n" + "".join(f"cell {line}\n" for line in lines))


class CellsTest(unittest.TestCase):
    def test_fields(self):
        cell = Cell("mux", 0b11001010, 3, 7, (1, 2, 3))
        self.assertEqual((cell.name, cell.table, cell.pins, cell.area, cell.delays), ("mux", 202, 3, 7, (1, 2, 3)))

    def test_output(self):
        for pins in (1, 2, 3, 4):
            drawn = random.Random(pins)
            table = drawn.randrange(2 ** 2 ** pins)
            cell = Cell("c", table, pins, 1, (1,) * pins)
            for values in itertools.product((0, 1), repeat=pins):
                row = sum(bit * 2 ** pin for pin, bit in enumerate(values))
                self.assertEqual(cell.output(list(values)), table // 2 ** row % 2)

    def test_libraries(self):
        cells = [Cell("inv", 1, 1, 2, (1,))]
        library = Library(cells, 3, 4)
        self.assertEqual((library.cells, library.setup, library.flop_delay), (cells, 3, 4))
        cells.append(Cell("b", 2, 1, 2, (1,)))
        self.assertEqual(len(library.cells), 1)

    def test_methods_stand_in_the_classes(self):
        self.assertIn("output", vars(Cell))
        for name in ("cell_named", "inverter", "is_complete", "bindings"):
            self.assertIn(name, vars(Library))


class ReadingTest(unittest.TestCase):
    def test_the_example(self):
        library = read_library(TEXT)
        self.assertEqual((library.cells[1].table, library.cells[1].delays, library.inverter()), (7, (2, 2), 0))
        self.assertEqual(fields(library), ([("inv", 1, 1, 2, (1,)), ("nand", 7, 2, 3, (2, 2))], 1, 2))

    def test_a_library_without_cells(self):
        self.assertEqual(fields(read_library("flop 99 99\n")), ([], 99, 99))

    def test_cells_of_each_number_of_pins(self):
        library = read_library(LARGE)
        self.assertEqual(fields(library), ([
            ("Inv1", 1, 1, 4, (1,)), ("x", 2, 1, 3, (2,)), ("inv2", 1, 1, 2, (99,)), ("INV", 1, 1, 2, (1,)),
            ("and2", 8, 2, 5, (3, 4)), ("mux", 0b10101100, 3, 9999, (1, 2, 3)),
            ("a1b2C3d4E5f6", 0b0110100110010110, 4, 10, (4, 30, 2, 1)),
        ], 99, 0))

    def test_the_values_stand_in_the_order_of_the_rows(self):
        self.assertEqual([library_of(f"c {values} 1 1 1").cells[0].table for values in ("1000", "0100", "0010", "0001")],
                         [1, 2, 4, 8])

    def test_the_text_of_a_library(self):
        for text in (TEXT, LARGE, "flop 1 0\n"):
            self.assertEqual(library_text(read_library(text)), text)

    def test_drawn_libraries(self):
        for seed in range(20):
            drawn = random.Random(seed)
            cells = []
            for index in range(drawn.randint(0, 32)):
                pins = drawn.randint(1, 4)
                delays = tuple(drawn.randint(1, 99) for _ in range(pins))
                cells.append(Cell(f"c{index}", drawn.randrange(2 ** 2 ** pins), pins, drawn.randint(1, 9999), delays))
            library = Library(cells, drawn.randint(1, 99), drawn.randint(0, 99))
            before = fields(library)
            text = library_text(library)
            self.assertEqual(fields(library), before)
            self.assertEqual(fields(read_library(text)), before)
            self.assertEqual(library_text(read_library(text)), text)


class MalformedTest(unittest.TestCase):
    def check(self, text, at):
        self.assertEqual(failure(read_library, text), ("Malformed", at), text)

    def check_line(self, line):
        """A line that is wrong behind right ones, also if a right one follows."""
        start = "flop 1 2\ncell inv 10 2 1\n"
        self.check(start + line + "\n", len(start))
        self.check(start + line + "\ncell nand 1110 3 2 2\n", len(start))

    def test_an_empty_text(self):
        self.check("", 0)
        self.check("\n", 0)
        self.check(" ", 0)

    def test_a_missing_newline(self):
        self.check("flop 1 2", 0)
        self.check("flop 1 2\ncell inv 10 2 1", 9)
        self.check(TEXT[:-1], 25)

    def test_the_first_line(self):
        for line in ("flop", "flop 1", "flop 1 2 3", "flop 0 1", "flop 100 1", "flop 1 100", "flop 01 1", "flop 1 00",
                     "flop 1 01", "flop x 1", "flop 1 -1", "flop +1 1", "Flop 1 1", "flop 1 1 ", " flop 1 1", "flop  1 1",
                     "flop 1  1", "flop\t1 1", "cell inv 10 2 1", "", "flop 1 \u0661", "flop 1_0 1", "flop 1 1\r"):
            self.check(line + "\n", 0)
            self.check(line + "\ncell inv 10 2 1\n", 0)

    def test_limits_of_the_first_line(self):
        for line in ("flop 1 0", "flop 99 99", "flop 10 9"):
            self.assertIsNone(failure(read_library, line + "\n"))

    def test_other_lines(self):
        for line in ("", " ", "flop 1 2", "cell", "cell a", "cell a 10", "cell a 10 2", "cell a 10 2 1 1", "cell a 10 2 1 ",
                     " cell a 10 2 1", "cell  a 10 2 1", "cell a 10 2  1", "Cell a 10 2 1", "gate a 10 2 1", "cell a 10\t2 1",
                     "cell a 10 2 1\r"):
            self.check_line(line)

    def test_names(self):
        for name in ("", "1a", "_a", "a_b", "a-b", "a.b", "abcdefghijklm", "\u00e9", "a\u00e9"):
            self.check_line(f"cell {name} 10 2 1")
        for name in ("a", "Z", "z9", "abcdefghijkl", "A00000000000"):
            self.assertEqual(library_of(f"{name} 10 2 1").cells[0].name, name)

    def test_values(self):
        for values in ("", "1", "101", "11111", "0101010", "010101010", "0" * 15, "0" * 17, "0" * 32, "1x", "12", "0 1"):
            for many in range(1, 6):
                self.check_line(f"cell a {values} 2" + " 1" * many)
        self.check_line("cell a 1110 2 1")
        self.check_line("cell a 1110 2 1 1 1")
        self.check_line("cell a " + "0" * 16 + " 2 1 1 1")

    def test_areas(self):
        for area in ("0", "10000", "01", "-1", "x", "1.5", "", "9" * 6000, "00001"):
            self.check_line(f"cell a 10 {area} 1")
        for area in (1, 9, 10, 9999):
            self.assertEqual(library_of(f"a 10 {area} 1").cells[0].area, area)

    def test_delays(self):
        for delay in ("0", "100", "01", "-1", "x", "1 1", "", "9" * 6000):
            self.check_line(f"cell a 10 2 {delay}")
            self.check_line(f"cell a 0110 2 1 {delay}")
        self.assertEqual(library_of("a 0110 2 99 1").cells[0].delays, (99, 1))

    def test_lines_are_read_in_order(self):
        self.check("flop 1 2\ncell a 10 0 1\ncell b 10 0 1\n", 9)
        self.check("flop 1 2\ncell a 10 1 1\n\ncell b 10 0 1\n", 23)
        self.check("flop 1 2\n\n", 9)


class OtherErrorsTest(unittest.TestCase):
    def test_twice(self):
        self.assertEqual(failure(library_of, "a 10 2 1", "b 10 2 1", "a 1110 3 1 1"), ("Twice", "a"))
        self.assertEqual(failure(library_of, "a 10 2 1", "b 10 2 1", "b 10 2 1", "a 10 2 1"), ("Twice", "b"))
        self.assertIsNone(failure(library_of, "a 10 2 1", "A 10 2 1"))

    def test_malformed_comes_before_twice(self):
        self.assertEqual(failure(library_of, "a 10 2 1", "a 10 2 0"), ("Malformed", 23))
        text = "flop 1 1\ncell a 10 2 1\ncell a 10 2 1"
        self.assertEqual(failure(read_library, text), ("Malformed", 23))

    def test_an_earlier_line_comes_first(self):
        self.assertEqual(failure(library_of, "a 10 2 1", "a 10 2 1", "b 10 2 0"), ("Twice", "a"))
        self.assertEqual(failure(library_of, "a 10 2 0", "b 10 2 1", "b 10 2 1"), ("Malformed", 9))

    def test_the_number_of_cells(self):
        lines = [f"c{index} 10 2 1" for index in range(33)]
        self.assertEqual(len(library_of(*lines[:32]).cells), 32)
        self.assertEqual(failure(library_of, *lines), ("Unbounded", "cells"))
        self.assertEqual(failure(library_of, *lines, "c0 10 2 0"), ("Unbounded", "cells"))

    def test_the_order_of_the_errors_of_the_33rd_cell(self):
        lines = [f"c{index} 10 2 1" for index in range(32)]
        start = len("flop 1 1\n" + "".join(f"cell {line}\n" for line in lines))
        self.assertEqual(failure(library_of, *lines, "c7 10 2 1"), ("Twice", "c7"))
        self.assertEqual(failure(library_of, *lines, "c7 10 2 0"), ("Malformed", start))
        self.assertEqual(failure(library_of, *lines, "d 10 2 1", "d 10"), ("Unbounded", "cells"))


class LookupTest(unittest.TestCase):
    def test_cell_named(self):
        library = read_library(LARGE)
        self.assertEqual([library.cell_named(cell.name) for cell in library.cells], list(range(7)))
        for name in ("inv", "", "and", "Mux"):
            self.assertEqual(failure(library.cell_named, name), ("Unknown", name))

    def test_inverter(self):
        self.assertEqual(read_library(LARGE).inverter(), 2)
        self.assertEqual(library_of("b 01 1 1", "i 10 9 1", "n 1110 1 1 1", "j 10 8 1", "k 10 8 1").inverter(), 3)
        self.assertEqual(library_of("i 10 2 1", "j 10 2 1", "k 10 3 1").inverter(), 0)

    def test_no_inverter(self):
        for lines in ((), ("b 01 1 1",), ("n 1110 1 1 1", "c 00 1 1", "d 11 1 1"), ("e 1010 1 1 1",)):
            self.assertEqual(failure(library_of(*lines).inverter), ("Uncovered", "inverter"))

    def test_is_complete(self):
        inverter = "i 10 1 1"
        for table in range(16):
            values = "".join(str(table >> row & 1) for row in range(4))
            expected = values.count("1") in (1, 3)
            self.assertIs(library_of(inverter, f"g {values} 1 1 1").is_complete(), expected)
            self.assertIs(library_of(f"g {values} 1 1 1", "b 01 1 1").is_complete(), False)
        for lines in ((), (inverter,), (inverter, "m 10000000 1 1 1 1"), (inverter, "c 01 1 1", "d 11 1 1")):
            self.assertIs(library_of(*lines).is_complete(), False)
        self.assertIs(library_of("m 10000000 1 1 1 1", "g 0010 1 1 1", inverter).is_complete(), True)


class BindingsTest(unittest.TestCase):
    def by_definition(self, library, table, count):
        found = []
        for index, cell in enumerate(library.cells):
            for literals in itertools.product(range(2 * count), repeat=cell.pins):
                variables = [literal // 2 for literal in literals]
                if sorted(variables) == list(range(count)) and connect(cell.table, list(literals), count) == table:
                    found.append((index, literals))
        return sorted(found)

    def test_the_example(self):
        library = read_library(TEXT)
        self.assertEqual(library.bindings(13, 2), [(1, (0, 3)), (1, (3, 0))])

    def test_cells_with_one_pin(self):
        library = library_of("i 10 1 1", "b 01 1 1", "z 00 1 1", "j 10 1 1")
        self.assertEqual(library.bindings(2, 1), [(0, (1,)), (1, (0,)), (3, (1,))])
        self.assertEqual(library.bindings(1, 1), [(0, (0,)), (1, (1,)), (3, (0,))])
        self.assertEqual(library.bindings(0, 1), [(2, (0,)), (2, (1,))])
        self.assertEqual(library.bindings(3, 1), [])

    def test_permuted_and_inverted_pins(self):
        library = library_of("andn 0100 1 1 1", "mux 00110101 1 1 1 1")
        self.assertEqual(library.bindings(2, 2), [(0, (0, 2)), (0, (3, 1))])
        self.assertEqual(library.bindings(4, 2), [(0, (1, 3)), (0, (2, 0))])
        self.assertEqual(library.bindings(8, 2), [(0, (0, 3)), (0, (2, 1))])
        self.assertEqual(library.bindings(1, 2), [(0, (1, 2)), (0, (3, 0))])
        # the variable 0 where the variable 2 is 0, and the variable 1 where it is 1
        self.assertEqual(library.bindings(0b11001010, 3), [(1, (0, 2, 5)), (1, (2, 0, 4))])

    def test_tables_that_no_cell_serves(self):
        library = read_library(TEXT)
        for table, count in ((6, 2), (9, 2), (0, 2), (15, 2), (10, 2), (0, 1), (3, 1), (128, 3), (0x8000, 4)):
            self.assertEqual(library.bindings(table, count), [])

    def test_tables_of_all_sizes(self):
        drawn = random.Random(11)
        lines = ["i 10 1 1", "n 1110 1 1 1", "x 0110 1 1 1", "m 00110101 1 1 1 1", "j 00010111 1 1 1 1", "i2 10 3 1",
                 "a 1111111111111110 1 1 1 1 1", "o 0001000100011111 1 1 1 1 1", "andn 0010 1 1 1"]
        library = library_of(*lines)
        before = library_text(library)
        wanted = [(table, count) for count in (1, 2) for table in range(2 ** 2 ** count)]
        wanted += [(table, 3) for table in range(0, 256, 5)]
        wanted += [(cell.table, cell.pins) for cell in library.cells]
        wanted += [(complement(cell.table, cell.pins), cell.pins) for cell in library.cells]
        for cell in library.cells[6:8]:
            literals = [2 * variable + drawn.randrange(2) for variable in drawn.sample(range(4), 4)]
            wanted.append((connect(cell.table, literals, 4), 4))
        for table, count in wanted:
            self.assertEqual(library.bindings(table, count), self.by_definition(library, table, count))
        self.assertEqual(library_text(library), before)

    def test_each_binding_gives_the_table(self):
        library = read_library(LARGE)
        found = library.bindings(0b0110100110010110, 4)
        self.assertEqual(len(found), 24 * 8)
        self.assertEqual(found, sorted(found))
        for index, literals in found:
            self.assertEqual((index, connect(library.cells[6].table, list(literals), 4)), (6, 0b0110100110010110))


if __name__ == "__main__":
    unittest.main()
