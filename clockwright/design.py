"""Flat designs."""


class Design:
    """The signals, drives, processes and functions that elaboration makes."""

    def __init__(self):
        self.names = []
        self.kind = {}
        self.width = {}
        self.reset = {}
        self.drives = []
        self.whens = []
        self.ticks = []
        self.functions = {}

    def inputs(self):
        """Return the names of the inputs, in the order of their declaration."""
        return [name for name in self.names if self.kind[name] == "in"]

    def outputs(self):
        """Return the names of the outputs, in the order of their declaration."""
        return [name for name in self.names if self.kind[name] == "out"]

    def registers(self):
        """Return the names of the registers, in the order of their declaration."""
        return [name for name in self.names if self.kind[name] == "reg"]

    def function_widths(self):
        """Return the width of each function by its name."""
        return {name: self.functions[name][1] for name in self.functions}
