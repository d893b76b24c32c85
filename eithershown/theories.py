"""Theories: names and axioms; problems: a theory and a goal."""

from eithershown.errors import BadAxioms, BadGoal, BadProblem, BadTheory
from eithershown.grammar import is_closed
from eithershown.kinds import bad_pair, frozen
from eithershown.signatures import check_names


def bad_axiom(names, axioms):
    return bad_pair(axioms, [], lambda thing: is_closed(names, thing))


class Theory:
    """Names, and named closed sentences in their order."""

    def __init__(self, names, axioms):
        check_names(names)
        index = bad_axiom(names, axioms)
        if index is not None:
            raise BadAxioms(index)
        self._names = names
        self._axioms = [frozen(axiom) for axiom in axioms]

    def names(self):
        return self._names

    def axioms(self):
        return list(self._axioms)

    def __eq__(self, other):
        return isinstance(other, Theory) and self._names == other._names and self._axioms == other._axioms


class Problem:
    """A theory and the sentence that it is asked about."""

    def __init__(self, theory, goal):
        check_theory(theory)
        if not is_closed(theory.names(), goal):
            raise BadGoal(goal)
        self._theory = theory
        self._goal = frozen(goal)

    def theory(self):
        return self._theory

    def goal(self):
        return self._goal

    def __eq__(self, other):
        return isinstance(other, Problem) and self._theory == other._theory and self._goal == other._goal


def check_theory(theory):
    if not isinstance(theory, Theory):
        raise BadTheory(theory)


def check_problem(problem):
    if not isinstance(problem, Problem):
        raise BadProblem(problem)
