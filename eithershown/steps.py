"""Single steps of derivations."""

from eithershown.errors import BadAtom, BadClause, BadLiteral, BadPlace, BadSubstitution, BadWord
from eithershown.exchange import frozen_substitution, part_at
from eithershown.fitting import is_any_atom, is_any_clause, is_any_literal, is_any_substitution, is_any_word
from eithershown.inference import instance, replacement, resolvent, with_word, without_same
from eithershown.kinds import frozen
from eithershown.rowforms import is_literal_place


def checked_clause(thing):
    if not is_any_clause(thing):
        raise BadClause(thing)
    return frozen(thing)


def checked_literal(thing):
    if not is_any_literal(thing):
        raise BadLiteral(thing)
    return frozen(thing)


def checked_term(thing):
    """A word that is no equality."""
    if not is_any_word(thing):
        raise BadWord(thing)
    return frozen(thing)


def checked_place(thing):
    if not is_literal_place(thing):
        raise BadPlace(thing)
    return frozen(thing)


def instance_of(clause, substitution):
    told = checked_clause(clause)
    if not is_any_substitution(substitution):
        raise BadSubstitution(substitution)
    return instance(told, frozen_substitution(substitution))


def literal_at(literal, place):
    told = checked_literal(literal)
    return part_at(told[1], checked_place(place))


def literal_with(literal, place, word):
    told = checked_literal(literal)
    indexes = checked_place(place)
    return with_word(told, indexes, checked_term(word))


def resolved(one, other, atom):
    first, later = checked_clause(one), checked_clause(other)
    if not is_any_atom(atom):
        raise BadAtom(atom)
    return resolvent(first, later, frozen(atom))


def replaced(one, other, left, right, literal, place):
    first, later = checked_clause(one), checked_clause(other)
    from_word, to_word = checked_term(left), checked_term(right)
    told = checked_literal(literal)
    return replacement(first, later, from_word, to_word, told, checked_place(place))


def same_gone(clause, word):
    told = checked_clause(clause)
    return without_same(told, checked_term(word))
