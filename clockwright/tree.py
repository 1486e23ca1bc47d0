"""Trees of expressions, targets and statements.

A tree is a nested tuple whose first item is its head. Lists of names have no
duplicates; they are kept in the keys of a dict while a tree is walked.
"""


def _trees_among(parts):
    # high, low and counts are integers in flat designs
    return [part for part in parts if isinstance(part, tuple)]


def _case_children(tree):
    found = [tree[1]]
    for _, block in tree[2]:
        found.extend(block)
    return found + list(tree[3])


def children(tree):
    """Return the expressions, targets and statements directly inside a tree, in order."""
    head = tree[0]
    if head in ("lit", "ref"):
        return []
    if head in ("pick", "part"):
        return _trees_among(tree[2:])
    if head == "cat":
        return list(tree[1])
    if head == "call":
        return list(tree[2])
    if head == "if":
        return [tree[1], *tree[2], *tree[3]]
    if head == "case":
        return _case_children(tree)
    if head == "loop":
        return [tree[2], tree[3], *tree[4]]
    return _trees_among(tree[1:])


def size(tree):
    """Return the number of expressions, targets and statements of a tree."""
    total = 1
    for child in children(tree):
        total += size(child)
    return total


def depth(tree):
    """Return 1 plus the greatest depth of the trees directly inside."""
    deepest = 0
    for child in children(tree):
        deepest = max(deepest, depth(child))
    return deepest + 1


def _find_target_reads(target, found):
    if target[0] == "cat":
        for child in target[1]:
            _find_target_reads(child, found)
        return
    for child in children(target):
        _find_reads(child, found)


def _find_reads(tree, found):
    head = tree[0]
    if head in ("ref", "pick", "part"):
        found[tree[1]] = True
    if head in ("set", "next"):
        _find_target_reads(tree[1], found)
        _find_reads(tree[2], found)
        return
    for child in children(tree):
        _find_reads(child, found)


def reads(tree):
    """Return the names that an expression or a statement reads."""
    found = {}
    _find_reads(tree, found)
    return list(found)


def _find_writes(tree, found):
    head = tree[0]
    if head in ("ref", "pick", "part"):
        found[tree[1]] = True
    elif head in ("set", "next"):
        _find_writes(tree[1], found)
    elif head == "cat":
        for child in tree[1]:
            _find_writes(child, found)
    elif head in ("if", "case", "loop"):
        _find_inner_writes(tree, found)


def _find_inner_writes(tree, found):
    for child in children(tree):
        if child[0] in ("set", "next", "if", "case", "loop"):
            _find_writes(child, found)


def writes(tree):
    """Return the names that a statement assigns to, or the base names of a target."""
    found = {}
    _find_writes(tree, found)
    return list(found)


def written_by(block):
    """Return the names that the statements of a block assign to."""
    found = {}
    for statement in block:
        _find_writes(statement, found)
    return list(found)


def _find_calls(tree, found):
    if tree[0] == "call":
        found[tree[1]] = True
    for child in children(tree):
        _find_calls(child, found)


def calls(tree):
    """Return the names of the functions that an expression or a statement calls."""
    found = {}
    _find_calls(tree, found)
    return list(found)


def called_by(block):
    """Return the names of the functions that the statements of a block call."""
    found = {}
    for statement in block:
        _find_calls(statement, found)
    return list(found)


def _substituted_target(target, table):
    if target[0] == "ref":
        return target
    if target[0] == "cat":
        return ("cat", tuple([_substituted_target(child, table) for child in target[1]]))
    return substitute(target, table)


def _substituted_block(block, table):
    return tuple([substitute(statement, table) for statement in block])


def _substituted_case(tree, table):
    arms = [(vectors, _substituted_block(block, table)) for vectors, block in tree[2]]
    return ("case", substitute(tree[1], table), tuple(arms), _substituted_block(tree[3], table))


def _substituted_loop(tree, table):
    _, name, low, high, block = tree
    inner = {key: table[key] for key in table if key != name}
    return ("loop", name, substitute(low, table), substitute(high, table), _substituted_block(block, inner))


def _substituted_part(part, table):
    return substitute(part, table) if isinstance(part, tuple) else part


def substitute(tree, table):
    """Return an expression or a statement with the names of the table replaced."""
    head = tree[0]
    if head == "lit":
        return tree
    if head == "ref":
        return table.get(tree[1], tree)
    if head in ("pick", "part"):
        return tree[:2] + tuple([_substituted_part(part, table) for part in tree[2:]])
    if head == "cat":
        return ("cat", tuple([substitute(child, table) for child in tree[1]]))
    if head == "call":
        return ("call", tree[1], tuple([substitute(child, table) for child in tree[2]]))
    if head in ("set", "next"):
        return (head, _substituted_target(tree[1], table), substitute(tree[2], table))
    if head == "if":
        blocks = [_substituted_block(block, table) for block in tree[2:]]
        return ("if", substitute(tree[1], table), *blocks)
    if head == "case":
        return _substituted_case(tree, table)
    if head == "loop":
        return _substituted_loop(tree, table)
    return (head,) + tuple([_substituted_part(part, table) for part in tree[1:]])
