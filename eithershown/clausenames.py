"""The names that stand in clauses: each with one number of words, as a function or as a predicate alone."""

from eithershown.fitting import is_any_clause
from eithershown.kinds import is_list


class ClauseNames:
    """The functions and predicates of clauses, with their arities."""

    def __init__(self):
        self.functions = {}
        self.predicates = {}

    def take_word(self, word):
        """Whether a word has each name as it stood; takes its names."""
        work = [word]
        while len(work) > 0:
            part = work.pop()
            if not isinstance(part, str):
                if part[0] in self.predicates or self.functions.setdefault(part[0], len(part) - 1) != len(part) - 1:
                    return False
                work.extend(part[1:])
        return True

    def take_atom(self, atom):
        if atom[0] != "=":
            name, arity = atom[0], len(atom) - 1
            if name in self.functions or self.predicates.setdefault(name, arity) != arity:
                return False
        return len([word for word in atom[1:] if not self.take_word(word)]) == 0

    def take_clause(self, clause):
        return len([atom for _, atom in clause if not self.take_atom(atom)]) == 0


def bad_names_index(clauses):
    """The index of the first thing that is no clause, or has a name otherwise than ahead; 0 for no list, None if all
    are right."""
    if not is_list(clauses):
        return 0
    names = ClauseNames()
    for index, clause in enumerate(clauses):
        if not is_any_clause(clause) or not names.take_clause(clause):
            return index
    return None


def names_of(clauses):
    """The names of clauses that have them rightly."""
    names = ClauseNames()
    for clause in clauses:
        names.take_clause(clause)
    return names
