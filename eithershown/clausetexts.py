"""Lists of clauses and their texts."""

from eithershown.errors import BadClauses
from eithershown.fitting import is_any_clause
from eithershown.kinds import bad_index
from eithershown.parsing import Parser
from eithershown.reader import Reader, fault_of
from eithershown.signatures import check_names
from eithershown.writing import clause_text


def clauses_text(clauses):
    index = bad_index(clauses, is_any_clause)
    if index is not None:
        raise BadClauses(index)
    return "".join([clause_text(clause) + "\n" for clause in clauses])


def read_clauses(names, text):
    check_names(names)
    reader = Reader(text, False)
    parser = Parser(reader, names)
    clauses = []
    while not reader.at_end():
        clauses.append(parser.clause())
    return clauses


def clauses_fault(names, text):
    return fault_of(lambda: read_clauses(names, text))
