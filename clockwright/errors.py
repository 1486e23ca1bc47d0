"""The errors that the program raises on purpose."""


class Refused(ValueError):
    """The base class of all errors of the program."""


class Malformed(Refused):
    """The text is not well formed at this index."""

    def __init__(self, at):
        self.at = at


class Unknown(Refused):
    """A name is used but not declared."""

    def __init__(self, name):
        self.name = name


class Twice(Refused):
    """A name is declared twice in the same scope."""

    def __init__(self, name):
        self.name = name


class Misused(Refused):
    """A name is declared, but it is not of the kind that is needed."""

    def __init__(self, name):
        self.name = name


class Width(Refused):
    """A width or an index is out of range."""

    def __init__(self, name):
        self.name = name


class Unbounded(Refused):
    """A limit is exceeded; the name is that of the limit."""

    def __init__(self, name):
        self.name = name


class Undriven(Refused):
    """A bit that must have a driver has none."""

    def __init__(self, name):
        self.name = name


class Driven(Refused):
    """A bit has more than one driver."""

    def __init__(self, name):
        self.name = name


class Latched(Refused):
    """A variable keeps its old value on some path."""

    def __init__(self, name):
        self.name = name


class Circular(Refused):
    """There is a combinational cycle."""

    def __init__(self, name):
        self.name = name


class Unbuildable(Refused):
    """A construct cannot be built."""

    def __init__(self, name):
        self.name = name


class Unsettled(Refused):
    """The simulation does not settle in this cycle."""

    def __init__(self, cycle):
        self.cycle = cycle


class Uncovered(Refused):
    """The library lacks a cell that mapping needs."""

    def __init__(self, need):
        self.need = need


class NotACut(Refused):
    """The given leaves do not separate this node of a graph."""

    def __init__(self, node):
        self.node = node


class Unsupported(Refused):
    """Anything else that is refused."""

    def __init__(self, words):
        self.words = words
