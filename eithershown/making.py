"""Which atoms instances make true, from below."""

from eithershown.conclusions import put_in_literals
from eithershown.fitting import words_fit
from eithershown.kinds import unlike
from eithershown.lightwords import LightWords
from eithershown.orders import is_above, weigh
from eithershown.puts import why_unmatched
from eithershown.writing import written


class Pending:
    """An atom whose truth is not known yet: the instances that could make it true, but for those that did not."""

    def __init__(self, atom):
        self.atom = atom
        self.text = written(atom)
        self.rows = None
        self.at = 0


class Making:
    """Clauses, and what is known by now of atoms: the instance that makes each true, None if none does."""

    def __init__(self, order, arities, clauses):
        self.order = order
        self.functions = {name: arity for name, arity in arities}
        self.clauses = [unlike(clause) for clause in clauses]
        self.light = LightWords(order, arities)
        self.makers = {}

    def rows_for(self, atom):
        """The triples (index, substitution, other literals) of instances in which an atom stands once, above all their
        other atoms."""
        weight = weigh(self.order, atom, {})
        told = []
        for index, clause in enumerate(self.clauses):
            for at, (is_so, pattern) in enumerate(clause):
                found = {}
                if is_so and why_unmatched(pattern, atom, [], {}, found) is None and self.are_made(found):
                    rest = clause[:at] + clause[at + 1:]
                    for words in self.light.substitutions(clause, found, weight):
                        others = put_in_literals(rest, words)
                        if len([other for _, other in others if not is_above(self.order, atom, other)]) == 0:
                            told.append((index, words, others))
        return told

    def are_made(self, words):
        return words_fit([words[variable] for variable in words], self.functions, ())

    def unknown(self, literals):
        """The atoms of which nothing is known."""
        return [atom for _, atom in literals if written(atom) not in self.makers]

    def does_hold(self, literals):
        """Whether one literal is known to be as it says."""
        for is_so, atom in literals:
            text = written(atom)
            if text in self.makers and (self.makers[text] is not None) == is_so:
                return True
        return False

    def settled(self, pending):
        """None if an atom is known by now; else the atoms that must be known ahead."""
        if pending.text in self.makers:
            return None
        if pending.rows is None:
            pending.rows = self.rows_for(pending.atom)
        while pending.at < len(pending.rows):
            index, words, others = pending.rows[pending.at]
            if not self.does_hold(others):
                needed = self.unknown(others)
                if len(needed) == 0:
                    self.makers[pending.text] = (index, {variable: words[variable] for variable in sorted(words)})
                    return None
                return needed
            pending.at += 1
        self.makers[pending.text] = None
        return None

    def maker(self, atom):
        """The pair (index, substitution) of an instance that makes an atom true, None if none does. What must be known
        ahead is put on a list, as calls may not go so deep."""
        work = [Pending(atom)]
        while len(work) > 0:
            needed = self.settled(work[-1])
            if needed is None:
                work.pop()
            else:
                work.extend([Pending(other) for other in needed])
        return self.makers[written(atom)]

    def holds_by_made(self, literals):
        """Whether one literal is as it says, where just those atoms are true that are made."""
        for is_so, atom in literals:
            if (self.maker(atom) is not None) == is_so:
                return True
        return False
