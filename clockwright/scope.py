"""Scopes: what the names denote at one place of a design."""

from clockwright.errors import Twice, Unknown


class Scope:
    """The names of one scope, inside the scope around it, if there is one.

    The meaning of a name is a tuple: ("constant", value), ("signal", flat name,
    kind), ("function", flat name) or ("instance",). The parameters of a function
    are signals of the kind "parameter".
    """

    def __init__(self, prefix, outer, *, widths, around):
        self.prefix = prefix
        self.outer = outer
        # the widths of the signals, or of the parameters inside a function
        self.widths = widths
        # how many instances are around the items of this scope
        self.around = around
        self.sealed = False
        self.meanings = {}
        # all visible constants; those of the outer scopes do not change any more
        # before this scope ends, because items are elaborated depth first
        self.constants = {} if outer is None else dict(outer.constants)

    def inner(self, prefix, name, value):
        """Return a scope inside this one with a name that is a constant."""
        scope = Scope(prefix, self, widths=self.widths, around=self.around)
        scope.declare(name, ("constant", value))
        return scope

    def body(self, widths):
        """Return the scope inside a function, which does not see the signals around it."""
        scope = Scope(self.prefix, self, widths=widths, around=self.around)
        scope.sealed = True
        return scope

    def declare(self, name, meaning):
        """Give a name of this scope its meaning."""
        if name in self.meanings:
            raise Twice(name)
        self.meanings[name] = meaning
        self.constants.pop(name, None)
        if meaning[0] == "constant":
            self.constants[name] = meaning[1]

    def meaning(self, name):
        """Return what a name denotes at this place."""
        scope = self
        sealed = False
        while scope is not None and name not in scope.meanings:
            sealed = sealed or scope.sealed
            scope = scope.outer
        if scope is None:
            raise Unknown(name)
        found = scope.meanings[name]
        if sealed and found[0] in ("signal", "instance"):
            raise Unknown(name)
        return found
