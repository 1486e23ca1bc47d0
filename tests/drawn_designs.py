"""Design texts that are drawn by a generator with a fixed seed.

The designs can be synthesized: no combinational cycles, no literals with x or z,
no ===, and each when process assigns its variables before it reads them.
"""

import random

FUNCTIONS = """
    func f(x[3], y)[4] { if y { x = x + 1; } else { case x { 0: { x = 5; } 3, 6: { x[0] = y; } } } give {x, y}; }
    func g(x[2])[3] { loop i in 0..2 { x[i] = ^f(x, x[1 - i]); } give f({x, 1'b1}, x[0]) + x; }
"""
SUB = """
    unit sub(n) in p[n]; in q; out r[n]; out s; reg c[n] = n; wire free[2]; var v[n];
      when { v = p; if q { v[0] = ~c[0]; } else { loop i in 1..n { v[i] = v[i - 1] ^ c[i]; } } }
      r = v + c; s = free[1]; free = {^c, q}; tick { if q { c <- c + p; } else { c[p] <- q; } }
    end
"""


class DrawnDesign:
    """Draws a text with a unit t."""

    def __init__(self, seed):
        self.random = random.Random(seed)
        self.widths = {}
        self.items = []

    def literal(self):
        width = self.random.randint(1, 4)
        return f"{width}'b{self.random.getrandbits(width):0{width}b}"

    def name(self, least=1):
        return self.random.choice([name for name in self.widths if self.widths[name] >= least])

    def simple(self):
        form = self.random.randint(0, 5)
        if form == 0:
            return self.literal()
        name = self.name()
        width = self.widths[name]
        if form == 1:
            return f"{name}[{self.random.randint(0, width)}]"
        if form == 2:
            high = self.random.randrange(width)
            return f"{name}[{high}:{self.random.randint(0, high)}]"
        return name

    def expression(self, deep):
        if deep <= 1:
            return self.simple()
        a, b = self.expression(deep - 1), self.expression(self.random.randint(1, deep - 1))
        form = self.random.randint(0, 9)
        if form == 0:
            return f"({self.random.choice('~-&|^!')}{a})"
        if form == 1:
            return f"({a} ? {b} : {self.simple()})"
        if form == 2:
            return f"{{{a}, {b}}}"
        if form == 3:
            return f"{{2: {a}}}"
        if form == 4:
            return f"{self.name()}[{a}]"
        if form == 5:
            return self.random.choice((f"f({a}, {b})", f"g({a})"))
        if form == 6:
            return f"({self.simple()} * {self.simple()})"
        sign = self.random.choice("+ - << >> & | ^ < <= > >= == != && ||".split())
        return f"({a} {sign} {b})"

    def target(self, names):
        """A target that names the first ones of these names, in pieces."""
        name = self.random.choice(names)
        width = self.widths[name]
        form = self.random.randint(0, 4)
        if form == 0:
            # no constant, which would have to be less than the width
            return f"{name}[{self.name()} {self.random.choice('+-&|')} {self.simple()}]"
        if form == 1:
            return f"{name}[{self.random.randrange(width)}]"
        if form == 2:
            high = self.random.randrange(width)
            return f"{name}[{high}:{self.random.randint(0, high)}]"
        if form == 3:
            return f"{{{name}, {self.target(names)}}}"
        return name

    def block(self, names, sign, deep):
        return "{ " + " ".join(self.statement(names, sign, deep) for _ in range(self.random.randint(0, 2))) + " }"

    def statement(self, names, sign, deep):
        form = self.random.randint(0, 3) if deep > 0 else 0
        if form == 1:
            blocks = [self.block(names, sign, deep - 1) for _ in range(2)]
            return f"if {self.expression(2)} {blocks[0]} else {blocks[1]}"
        if form == 2:
            arms = [f"{self.literal()}, {self.random.randint(0, 3)}: {self.block(names, sign, deep - 1)}"
                    for _ in range(self.random.randint(1, 3))]
            return f"case {self.expression(2)} {{ {' '.join(arms)} else {self.block(names, sign, deep - 1)} }}"
        return f"{self.target(names)} {sign} {self.expression(2)};"

    def declare(self, kind, name, width, rest=""):
        self.items.append(f"{kind} {name}[{width}]{rest};")

    def add_wire(self, index):
        width = self.random.randint(1, 4)
        name = f"w{index}"
        self.declare("wire", name, width)
        if width > 1 and self.random.random() < 0.5:
            self.items.append(f"{{{name}[{width - 1}], {name}[{width - 2}:0]}} = {self.expression(3)};")
        else:
            self.items.append(f"{name} = {self.expression(3)};")
        self.widths[name] = width

    def add_process(self, index):
        names = [f"v{index}", f"u{index}"]
        firsts = []
        for name in names:
            width = self.random.randint(1, 4)
            self.declare("var", name, width)
            firsts.append((name, width, self.expression(2)))
        lines = [f"{name} = {tree};" for name, _, tree in firsts]
        for name, width, _ in firsts:
            self.widths[name] = width
        lines += [self.statement(names, "=", 2) for _ in range(self.random.randint(0, 3))]
        self.items.append("when { " + " ".join(lines) + " }")

    def add_instance(self, index):
        width = self.random.randint(1, 3)
        self.declare("wire", f"r{index}", width)
        self.declare("wire", f"s{index}", 1)
        ports = f"p: {self.expression(2)}, q: {self.simple()}, r: r{index}, s: s{index}"
        self.items.append(f"use i{index} = sub({width})({ports});")
        self.widths[f"r{index}"] = width
        self.widths[f"s{index}"] = 1

    def add_ticks(self, registers):
        middle = self.random.randint(0, len(registers))
        for names in (registers[:middle], registers[middle:]):
            if names:
                statements = [self.statement(names, "<-", 2) for _ in range(3)]
                statements += [f"{name} <- {self.expression(3)};" for name in names if self.random.random() < 0.5]
                # each register is assigned, but perhaps never changes
                kept = [f"if {name} < 0 {{ {name} <- 0; }}" for name in names]
                self.items.append("tick { " + " ".join(kept + statements) + " }")

    def text(self):
        """The text of the design, whose inputs are a, b and c."""
        for name in ("a", "b", "c"):
            self.widths[name] = self.random.randint(1, 3)
            self.declare("in", name, self.widths[name])
        registers = [f"k{index}" for index in range(self.random.randint(1, 3))]
        for name in registers:
            self.widths[name] = self.random.randint(1, 4)
            self.declare("reg", name, self.widths[name], f" = {self.random.randint(0, 20)}")
        for index in range(self.random.randint(2, 5)):
            self.random.choice((self.add_wire, self.add_process, self.add_instance))(index)
        for index in range(self.random.randint(1, 3)):
            self.declare("out", f"o{index}", self.random.randint(1, 5))
            self.items.append(f"o{index} = {self.expression(3)};")
        self.add_ticks(registers)
        return f"{SUB} unit t() {FUNCTIONS} {' '.join(self.items)} end"

    def stimulus(self, design, many, first_reset=1):
        """Known inputs and reset bits for some cycles."""
        found = []
        for cycle in range(many):
            inputs = tuple("".join(self.random.choice("01") for _ in range(design.width[name]))
                           for name in design.inputs())
            found.append((first_reset if cycle == 0 else int(self.random.random() < 0.1), inputs))
        return found

    def choices(self, many):
        return [self.random.randint(0, 50) for _ in range(many)]
