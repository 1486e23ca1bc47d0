"""Trees that are drawn by a generator with a fixed seed."""

import random

UNARY = ("not", "neg", "redand", "redor", "redxor", "lnot")
BINARY = ("and", "or", "xor", "add", "sub", "mul", "shl", "shr", "lt", "le", "eq", "ne", "same", "land", "lor")
NAMES = ("a", "b", "c", "x", "z1", "long_name", "h", "units")


class Drawn:
    """Draws trees of a bounded depth."""

    def __init__(self, seed):
        self.random = random.Random(seed)

    def name(self):
        return self.random.choice(NAMES)

    def vector(self):
        characters = self.random.choice(("01", "01xz"))
        return "".join(self.random.choice(characters) for _ in range(self.random.choice((1, 2, 3, 8, 64))))

    def many(self, draw, deep, least=1):
        return tuple(draw(deep) for _ in range(self.random.randint(least, 3)))

    def expression(self, deep):
        form = self.random.randint(0, 11) if deep > 1 else self.random.randint(0, 1)
        if form == 0:
            return ("lit", self.vector())
        if form == 1:
            return ("ref", self.name())
        if form == 2:
            return ("call", self.name(), self.many(self.expression, deep - 1))
        if form == 3:
            return ("cat", self.many(self.expression, deep - 1))
        return self.operation(form, deep)

    def operation(self, form, deep):
        def draw():
            return self.expression(self.random.randint(1, deep - 1))

        if form == 4:
            return ("pick", self.name(), draw())
        if form == 5:
            return ("part", self.name(), draw(), draw())
        if form == 6:
            return ("rep", draw(), draw())
        if form == 7:
            return (self.random.choice(UNARY), draw())
        if form == 8:
            return ("mux", draw(), draw(), draw())
        if form == 9:
            return (self.random.choice(("lt", "le")), draw(), draw())
        return (self.random.choice(BINARY), draw(), draw())

    def target(self, deep):
        form = self.random.randint(0, 3 if deep > 1 else 2)
        if form == 0:
            return ("ref", self.name())
        if form == 1:
            return ("pick", self.name(), self.expression(deep - 1))
        if form == 2:
            return ("part", self.name(), self.expression(deep - 1), self.expression(deep - 1))
        return ("cat", self.many(self.target, deep - 1))

    def block(self, deep):
        return self.many(self.statement, deep - 1, least=0) if deep > 1 else ()

    def statement(self, deep):
        form = self.random.randint(0, 5)
        if form < 2:
            return (("set", "next")[form], self.target(3), self.expression(3))
        if form == 2:
            return ("if", self.expression(3), self.block(deep), self.block(deep))
        if form == 3:
            return self.case(deep)
        if form == 4:
            return ("loop", self.name(), self.expression(2), self.expression(3), self.block(deep))
        return ("give", self.expression(4))

    def case(self, deep):
        arms = tuple(
            (tuple(self.vector() for _ in range(self.random.randint(1, 3))), self.block(deep))
            for _ in range(self.random.randint(0, 3))
        )
        others = self.block(deep)
        if not arms and not others:
            others = (("give", ("ref", "a")),)
        return ("case", self.expression(3), arms, others)

    def items(self, deep):
        return self.many(self.item, deep - 1, least=0) if deep > 1 else ()

    def item(self, deep):
        form = self.random.randint(0, 8)
        if form == 0:
            kind = self.random.choice(("in", "out", "wire", "var"))
            return (kind, self.name(), self.random.choice((("lit", "1"), ("lit", "01"), self.expression(2))))
        if form == 1:
            reset = self.random.choice((("lit", "0"), ("lit", "00"), self.expression(2)))
            return ("reg", self.name(), self.expression(2), reset)
        if form == 2:
            return ("drive", self.target(3), self.expression(4))
        if form == 3:
            return (self.random.choice(("when", "tick")), self.block(3))
        if form == 4:
            ports = tuple((self.name(), self.expression(2)) for _ in range(self.random.randint(0, 2)))
            return ("use", self.name(), self.name(), self.many(self.expression, 2, least=0), ports)
        if form == 5:
            return ("each", self.name(), self.expression(2), self.expression(2), self.items(deep))
        if form == 6:
            return ("given", self.expression(3), self.items(deep), self.items(deep))
        parameters = tuple((self.name(), self.expression(2)) for _ in range(self.random.randint(1, 3)))
        return ("func", self.name(), parameters, self.expression(2), self.block(3))

    def units(self):
        return tuple(
            ("unit", self.name(), tuple(self.name() for _ in range(self.random.randint(0, 3))), self.items(4))
            for _ in range(self.random.randint(1, 3))
        )
