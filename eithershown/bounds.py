"""Of which sizes worlds need not be greater."""

from eithershown.clausenames import ClauseNames, names_of
from eithershown.errors import BadSentences
from eithershown.exchange import clause_variables
from eithershown.fitting import BINDERS, JOINERS, sentence_fits
from eithershown.groundset import all_parts
from eithershown.groundwords import checked_named_clauses
from eithershown.kinds import frozen, is_list
from eithershown.tables import power
from eithershown.writing import written


def kind_among(clauses):
    if len([clause for clause in clauses if len(clause_variables(clause)) > 0]) == 0:
        return "ground"
    functions = names_of(clauses).functions
    return "constants" if len([name for name in functions if functions[name] > 0]) == 0 else None


def kind_of(clauses):
    return kind_among(checked_named_clauses(clauses))


def size_bound(clauses):
    told = checked_named_clauses(clauses)
    kind = kind_among(told)
    if kind is None:
        return None
    if kind == "constants":
        return max(1, len(names_of(told).functions))
    words = [part for clause in told for _, atom in clause for word in atom[1:] for part in all_parts(word)]
    return max(1, len(set([written(word) for word in words])))


def atoms_of(sentence):
    """The atoms of a sentence of right form; by a list of what is to do, as calls may not go so deep."""
    told = []
    work = [sentence]
    while len(work) > 0:
        part = work.pop()
        if part[0] in BINDERS:
            work.append(part[2])
        elif part[0] == "not" or part[0] in JOINERS:
            work.extend(part[1:])
        else:
            told.append(part)
    return told


def one_place_bound(sentences):
    if not is_list(sentences):
        raise BadSentences(0)
    names = ClauseNames()
    has_equality = False
    for index, sentence in enumerate(sentences):
        if not sentence_fits(sentence, None, None, ()):
            raise BadSentences(index)
        for atom in atoms_of(frozen(sentence)):
            if not names.take_atom(atom):
                raise BadSentences(index)
            has_equality = has_equality or atom[0] == "="
    if has_equality or len([name for name in names.functions if names.functions[name] > 0]) > 0:
        return None
    if len([name for name in names.predicates if names.predicates[name] > 1]) > 0:
        return None
    return power(2, len(names.predicates))
