"""Words, sentences and clauses by Names."""

from eithershown.fitting import clause_fits, sentence_fits, word_fits
from eithershown.signatures import check_names


def is_word(names, thing):
    check_names(names)
    return word_fits(thing, dict(names.functions()), None)


def is_sentence(names, thing):
    check_names(names)
    return sentence_fits(thing, dict(names.functions()), dict(names.predicates()), None)


def is_closed(names, thing):
    check_names(names)
    return sentence_fits(thing, dict(names.functions()), dict(names.predicates()), ())


def is_clause(names, thing):
    check_names(names)
    return clause_fits(thing, dict(names.functions()), dict(names.predicates()))
