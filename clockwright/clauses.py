"""Clauses: lists of terms of which one must be true."""

from clockwright.graph import first_and


def term_of(literal):
    """Return the term of a literal of a graph."""
    number = literal // 2 + 1
    return -number if literal & 1 else number


def graph_clauses(graph):
    """Return the clauses that the values of the nodes make true, and nothing else does."""
    found = [(-1,)]
    number = first_and(graph)
    for a, b in graph.ands:
        number += 1
        one, two = term_of(a), term_of(b)
        found.extend([(-number, one), (-number, two), (number, -one, -two)])
    return found


def clauses_with(graph, literal):
    """Return the clauses of a graph, and behind them the one that says that a literal is 1."""
    return graph_clauses(graph) + [(term_of(literal),)]


def _holds(term, assignment):
    worth = assignment[abs(term) - 1]
    return worth == 1 if term > 0 else worth == 0


def is_true(clause, assignment):
    """Tell whether one of the terms of a clause is true."""
    return any([_holds(term, assignment) for term in clause])


def all_true(clauses, assignment):
    """Tell whether all clauses are true."""
    return all([is_true(clause, assignment) for clause in clauses])
