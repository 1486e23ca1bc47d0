"""Refutations, which show that no assignment makes all clauses of a list true, and their check."""


def is_sequence(value):
    """Tell whether a value of any kind is a list or a tuple."""
    return isinstance(value, (list, tuple))


def is_int(value):
    """Tell whether a value of any kind is an integer; True and False are none."""
    return isinstance(value, int) and not isinstance(value, bool)


def _are_integers(value):
    return is_sequence(value) and all([is_int(part) for part in value])


def _is_step(value):
    if not is_sequence(value) or len(value) != 2:
        return False
    return _are_integers(value[0]) and 0 not in value[0] and _are_integers(value[1])


def check_step(clauses, clause, hints):
    """Tell whether a step is right after these clauses."""
    assumed = {-term: True for term in clause}
    for hint in hints:
        if not 0 <= hint < len(clauses):
            return False
        open_terms = [term for term in clauses[hint] if -term not in assumed]
        if not open_terms:
            return True
        if len(set(open_terms)) > 1:
            return False
        assumed[open_terms[0]] = True
    return False


def check_refutation(clauses, refutation):
    """Tell whether a value of any kind is a right refutation of the clauses."""
    if not is_sequence(refutation) or len(refutation) == 0:
        return False
    if not all([_is_step(step) for step in refutation]):
        return False
    known = list(clauses)
    for clause, hints in refutation:
        if not check_step(known, clause, hints):
            return False
        known.append(clause)
    return len(known[-1]) == 0
