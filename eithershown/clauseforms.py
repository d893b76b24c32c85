"""The clauses of a theory, with a goal or without, and worlds grown by what their new names stand for."""

from eithershown.clausemaking import Former
from eithershown.errors import BadGoal, BadWorld
from eithershown.grammar import is_closed
from eithershown.kinds import frozen
from eithershown.meaning import Sense
from eithershown.signatures import Names
from eithershown.spreading import size_of
from eithershown.theories import check_problem, check_theory
from eithershown.worlds import all_rows, forgotten, grown, world_fault


def told_lists(lists):
    return [list(literals) for literals in lists]


def told_form_row(row):
    """A row with all lists new."""
    if row[0] == "constant":
        return row
    if row[0] == "part":
        return ("part", row[1], list(row[2]), told_lists(row[3]))
    return row[:2] + (list(row[2]),) + row[3:]


def least_witness(sense, variable, part, giving):
    """The least thing by which a part is true, 0 if there is none."""
    within = dict(giving)
    for thing in range(sense.many):
        within[variable] = thing
        if sense.is_true(part, within):
            return thing
    return 0


def is_row_true(sense, row, giving):
    """Whether a side is true, or each list of a part has a true literal."""
    if row[0] == "side":
        return sense.is_true(row[3], giving)
    for literals in row[3]:
        if not sense.is_clause_true(literals, giving):
            return False
    return True


def add_table(sense, row):
    """The table of a new name, by the tables of those ahead."""
    if row[0] == "constant":
        sense.tables[row[1]] = {(): 0}
        return
    rows = all_rows(sense.many, len(row[2]))
    givings = [dict(zip(row[2], things)) for things in rows]
    if row[0] == "witness":
        worths = [least_witness(sense, row[3], row[4], giving) for giving in givings]
        sense.tables[row[1]] = dict(zip(rows, worths))
    else:
        sense.facts[row[1]] = {things: True for things, giving in zip(rows, givings)
                               if is_row_true(sense, row, giving)}


class Form:
    """The clauses of a theory's axioms, and of a goal's denial if there is a goal."""

    def __init__(self, theory, goal):
        check_theory(theory)
        if goal is not None and not is_closed(theory.names(), goal):
            raise BadGoal(goal)
        self._theory = theory
        self._goal = frozen(goal)
        names = theory.names()
        former = Former([name for name, _ in names.functions() + names.predicates()])
        for label, sentence in self.sentences():
            former.take(label, sentence)
        former.end()
        self._clauses = former.clauses
        self._rows = former.rows
        self._functions = names.functions() + former.functions
        self._predicates = names.predicates() + former.predicates

    def sentences(self):
        """The axioms and the goal's denial, with their names."""
        denial = [] if self._goal is None else [("goal", ("not", self._goal))]
        return self._theory.axioms() + denial

    def clauses(self):
        return [(label, list(clause)) for label, clause in self._clauses]

    def rows(self):
        return [told_form_row(row) for row in self._rows]

    def names(self):
        return Names(self._functions, self._predicates)

    def with_tables(self, world):
        if world_fault(self._theory.names(), world) is not None:
            raise BadWorld(world)
        sense = Sense((world[0], dict(world[1]), world[2]))
        for row in self._rows:
            add_table(sense, row)
        return grown(world, sense.tables, {name: list(sense.facts[name]) for name in sense.facts})

    def without_tables(self, world):
        if world_fault(self.names(), world) is not None:
            raise BadWorld(world)
        return forgotten(world, self._theory.names())

    def bound(self):
        return 1 + 20 * sum([size_of(sentence) for _, sentence in self.sentences()])

    def __eq__(self, other):
        return isinstance(other, Form) and self._theory == other._theory and self._goal == other._goal


def problem_form(problem):
    check_problem(problem)
    return Form(problem.theory(), problem.goal())
