"""The loop that draws conclusions till clauses are refuted, or saturated."""

from heapq import heappop, heappush

from eithershown.conclusions import conclusions_of, factors_of, is_ordered_clause
from eithershown.errors import BadClauses, BadNumber
from eithershown.kinds import bad_index, frozen, is_number, unlike
from eithershown.laying import laying, least_form
from eithershown.lineage import Lineage
from eithershown.orders import check_order, weigh
from eithershown.trimming import is_always_true
from eithershown.writing import clause_text


def checked_ordered_clauses(order, clauses):
    """The clauses made of tuples, without equality, of the order's names."""
    index = bad_index(clauses, lambda thing: is_ordered_clause(order, thing))
    if index is not None:
        raise BadClauses(index)
    return [frozen(clause) for clause in clauses]


def is_laid(one, other):
    """Whether unlike literals are laid in others one to one."""
    return len(one) <= len(other) and laying(one, other, True, [], {}) is not None


class Loop:
    """Forms that wait, and the numbers of those that are kept."""

    def __init__(self, order, clauses):
        self.order = order
        self.lineage = Lineage(clauses)
        self.stood = {}
        self.queue = []
        self.kept = []
        for index, clause in enumerate(clauses):
            self.wait(least_form(unlike(clause)), ("given", index, None))

    def wait(self, form, origin):
        text = clause_text(form)
        if text not in self.stood:
            self.stood[text] = True
            weight = sum([weigh(self.order, atom, {}) for _, atom in form])
            heappush(self.queue, (weight, text, self.lineage.take(form, origin)))

    def form(self, number):
        return self.lineage.forms[number]

    def take(self):
        """Takes the least that waits: its number if it is the empty clause, else None."""
        number = heappop(self.queue)[2]
        form = self.form(number)
        if len(form) == 0:
            return number
        if is_always_true(form) or len([at for at in self.kept if is_laid(self.form(at), form)]) > 0:
            return None
        self.kept = [at for at in self.kept if not is_laid(form, self.form(at))] + [number]
        for at in self.kept:
            self.conclude(number, at)
            if at != number:
                self.conclude(at, number)
        for index, later, found in factors_of(self.order, form):
            self.wait(found, ("factor", [number], (index, later)))
        return None

    def conclude(self, number, at):
        for index, later, found in conclusions_of(self.order, self.form(number), self.form(at)):
            self.wait(found, ("resolve", [number, at], (index, later)))

    def told(self):
        """What is kept, ascending by texts."""
        return sorted([list(self.form(at)) for at in self.kept], key=clause_text)


def loop(order, clauses, rounds):
    check_order(order)
    told = checked_ordered_clauses(order, clauses)
    if not is_number(rounds):
        raise BadNumber(rounds)
    state = Loop(order, told)
    for _ in range(rounds):
        if len(state.queue) == 0:
            break
        empty = state.take()
        if empty is not None:
            return ("refuted", state.lineage.derivation(empty))
    return ("saturated" if len(state.queue) == 0 else "open", state.told())


def is_redundant(clauses, form):
    """Whether a form is trivial, or has one of the clauses, like literals once, laid one to one in it."""
    return is_always_true(form) or len([clause for clause in clauses if is_laid(clause, form)]) > 0


def saturation_fault(order, clauses):
    check_order(order)
    told = checked_ordered_clauses(order, clauses)
    once = [unlike(clause) for clause in told]
    for at, one in enumerate(told):
        for index, later, found in factors_of(order, one):
            if not is_redundant(once, found):
                return (at, None, index, later)
        for behind, other in enumerate(told):
            for index, later, found in conclusions_of(order, one, other):
                if not is_redundant(once, found):
                    return (at, behind, index, later)
    return None
