"""The search for an assignment that makes all clauses true, or for a refutation."""


class Search:
    """The clauses, with those that were learned, and the trail of the terms that were made true."""

    def __init__(self, clauses, variables):
        self.clauses = list(clauses)
        self.variables = variables
        self.steps = []
        self.trail = []
        # the reasons of the terms of the trail
        self.reasons = []
        # 1, 0 or None for each term; a negative term counts from the end of the list
        self.truths = [None] * (2 * variables + 1)
        # the numbers of the clauses that contain a term, likewise
        self.places = [[] for _ in self.truths]
        for number in range(len(self.clauses)):
            self._note_places(number)
        # how many terms of the trail are handled, and a variable below which all have values
        self._handled = 0
        self._least = 1

    def _note_places(self, number):
        for term in sorted(set(self.clauses[number])):
            self.places[term].append(number)

    def add_term(self, term, reason):
        """Make a term true; the reason is the number of a clause, or None for a decision."""
        self.trail.append(term)
        self.reasons.append(reason)
        self.truths[term] = 1
        self.truths[-term] = 0

    def add_single_terms(self):
        """Make the terms true that stand alone in a clause; return the number of a conflict clause, or None."""
        for number, clause in enumerate(self.clauses):
            if len(set(clause)) > 1:
                continue
            if not clause or self.truths[clause[0]] == 0:
                return number
            if self.truths[clause[0]] is None:
                self.add_term(clause[0], number)
        return None

    def _open_term(self, clause):
        """Return the only term of a clause that is not false, 0 if all are, or None if it does not matter."""
        found = 0
        for term in clause:
            truth = self.truths[term]
            if truth == 1:
                return None
            if truth is None and term != found:
                if found != 0:
                    return None
                found = term
        return found

    def propagate(self):
        """Add what follows from the trail; return the number of a conflict clause, or None."""
        while self._handled < len(self.trail):
            term = self.trail[self._handled]
            self._handled += 1
            for number in self.places[-term]:
                found = self._open_term(self.clauses[number])
                if found == 0:
                    return number
                if found is not None:
                    self.add_term(found, number)
        return None

    def decide(self):
        """Add the negative of the least variable without a value; return False if there is none."""
        while self._least <= self.variables and self.truths[self._least] is not None:
            self._least += 1
        if self._least > self.variables:
            return False
        self.add_term(-self._least, None)
        return True

    def _marked(self, conflict):
        """Return the places in the trail from which a conflict comes, the last one first."""
        marked = {-term: True for term in self.clauses[conflict]}
        found = []
        for place in reversed(range(len(self.trail))):
            term, reason = self.trail[place], self.reasons[place]
            if term in marked:
                found.append(place)
                if reason is not None:
                    marked.update({-other: True for other in self.clauses[reason] if other != term})
        return found

    def learn(self, conflict):
        """Learn a clause from a conflict, and go back; return False if the clause is empty."""
        places = self._marked(conflict)
        decisions = [place for place in places if self.reasons[place] is None]
        clause = tuple([-self.trail[place] for place in decisions])
        hints = [self.reasons[place] for place in reversed(places) if self.reasons[place] is not None]
        self.steps.append((clause, hints + [conflict]))
        if not clause:
            return False
        self._cut(decisions[0])
        self.clauses.append(clause)
        self._note_places(len(self.clauses) - 1)
        self.add_term(clause[0], len(self.clauses) - 1)
        return True

    def _cut(self, place):
        """Take back all terms of the trail from a place on."""
        for term in self.trail[place:]:
            self.truths[term] = None
            self.truths[-term] = None
            self._least = min(self._least, abs(term))
        del self.trail[place:]
        del self.reasons[place:]
        # all terms before a decision were handled before it was made
        self._handled = place

    def assignment(self):
        """Return the values of all variables."""
        return [self.truths[variable] for variable in range(1, self.variables + 1)]


def solve(clauses, variables, limit):
    """Return an assignment that makes all clauses true, a refutation, or neither behind too many conflicts."""
    search = Search(clauses, variables)
    conflicts = 0
    conflict = search.add_single_terms()
    while True:
        if conflict is None:
            conflict = search.propagate()
        if conflict is None:
            if not search.decide():
                return ("model", search.assignment())
        else:
            conflicts += 1
            if conflicts > limit:
                return ("unknown", None)
            if not search.learn(conflict):
                return ("refuted", search.steps)
            conflict = None
