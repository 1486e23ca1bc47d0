"""Points RF2 and SV1 to SV5 read word by word, without any shortcut."""


def step_is_right(clauses, clause, hints):
    assumed = {-term for term in clause}
    for hint in hints:
        if hint < 0 or hint >= len(clauses):
            return False
        open_terms = {term for term in clauses[hint] if -term not in assumed}
        if len(open_terms) == 0:
            return True
        if len(open_terms) > 1:
            return False
        assumed |= open_terms
    return False


class Conflict(Exception):
    def __init__(self, number):
        super().__init__(number)
        self.number = number


class PlainSolver:
    def __init__(self, clauses, variables):
        self.clauses = list(clauses)
        self.variables = variables
        self.trail = []
        self.handled = 0
        self.steps = []

    def terms(self):
        return [term for term, _ in self.trail]

    def is_true(self, term):
        return term in self.terms()

    def is_false(self, term):
        return -term in self.terms()

    def begin(self):
        for number, clause in enumerate(self.clauses):
            if len(set(clause)) > 1:
                continue
            if clause == () or self.is_false(clause[0]):
                raise Conflict(number)
            if not self.is_true(clause[0]):
                self.trail.append((clause[0], number))

    def propagate(self):
        while self.handled < len(self.trail):
            term = self.trail[self.handled][0]
            self.handled += 1
            for number, clause in enumerate(self.clauses):
                if -term not in clause or any(self.is_true(other) for other in clause):
                    continue
                left = {other for other in clause if not self.is_false(other)}
                if not left:
                    raise Conflict(number)
                if len(left) == 1:
                    self.trail.append((left.pop(), number))

    def unvalued(self):
        return [variable for variable in range(1, self.variables + 1)
                if not self.is_true(variable) and not self.is_false(variable)]

    def learn(self, conflict):
        """Return whether the learned clause is empty."""
        marked = {-term for term in self.clauses[conflict]}
        for term, reason in reversed(self.trail):
            if term in marked and reason is not None:
                marked |= {-other for other in self.clauses[reason] if other != term}
        decisions = [term for term, reason in reversed(self.trail) if term in marked and reason is None]
        hints = [reason for term, reason in self.trail if term in marked and reason is not None]
        clause = tuple(-term for term in decisions)
        self.steps.append((clause, hints + [conflict]))
        if not clause:
            return True
        self.trail = self.trail[:self.terms().index(decisions[0])]
        self.handled = len(self.trail)
        self.clauses.append(clause)
        self.trail.append((clause[0], len(self.clauses) - 1))
        return False


def plain_solve(clauses, variables, limit):
    solver = PlainSolver(clauses, variables)
    conflicts = 0
    begun = False
    while True:
        try:
            if not begun:
                begun = True
                solver.begin()
            solver.propagate()
        except Conflict as conflict:
            conflicts += 1
            if conflicts == limit + 1:
                return ("unknown", None)
            if solver.learn(conflict.number):
                return ("refuted", solver.steps)
            continue
        left = solver.unvalued()
        if not left:
            return ("model", [int(solver.is_true(variable)) for variable in range(1, variables + 1)])
        solver.trail.append((-left[0], None))
