"""Truth tables over at most four variables, as integers: bit r is the value on row r."""

# The tables of the variables over four variables; their low bits serve fewer variables.
MASKS = (0xAAAA, 0xCCCC, 0xF0F0, 0xFF00)


def full(count):
    """Return the table whose value is 1 on every row."""
    return (1 << (1 << count)) - 1


def variable(index, count):
    """Return the table of a variable."""
    return MASKS[index] & full(count)


def value_at(table, row):
    """Return the value of a table on a row."""
    return (table >> row) & 1


def complement(table, count):
    """Return the table of the negated function."""
    return table ^ full(count)


def cofactor(table, count, index, bit):
    """Return the table in which a variable has a fixed value."""
    rows = variable(index, count)
    distance = 1 << index
    if bit == 1:
        kept = table & rows
        return kept | kept >> distance
    kept = table & complement(rows, count)
    return kept | kept << distance


def support(table, count):
    """Return the variables on which the function depends, in ascending order."""
    return [
        index for index in range(count)
        if cofactor(table, count, index, 0) != cofactor(table, count, index, 1)
    ]


def _row_of(literals, row):
    """Return the row that the values of the literals on a row make up."""
    found = 0
    for place, literal in enumerate(literals):
        bit = ((row >> (literal // 2)) ^ literal) & 1
        found |= bit << place
    return found


def connect(table, literals, count):
    """Return the table over count variables in which each variable is replaced by a literal."""
    found = 0
    for row in range(1 << count):
        found |= value_at(table, _row_of(literals, row)) << row
    return found


def shrink(table, count):
    """Return the support, and the table over as many variables as it has."""
    needed = support(table, count)
    found = 0
    for row in range(1 << len(needed)):
        # variables outside of the support do not matter; they are 0 here
        whole = sum([((row >> place) & 1) << index for place, index in enumerate(needed)])
        found |= value_at(table, whole) << row
    return (needed, found)
