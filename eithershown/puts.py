"""Substitutions put in words, and words matched by patterns."""

from eithershown.errors import BadSubstitution
from eithershown.exchange import exchanged, frozen_substitution
from eithershown.fitting import is_any_substitution
from eithershown.words import checked_word


def checked_substitution(thing):
    if not is_any_substitution(thing):
        raise BadSubstitution(thing)
    return frozen_substitution(thing)


def put(word, substitution):
    told = checked_word(word)
    return exchanged(told, checked_substitution(substitution))


def behind(first, later):
    ahead = checked_substitution(first)
    then = checked_substitution(later)
    both = {**then, **{variable: exchanged(ahead[variable], then) for variable in ahead}}
    return {variable: both[variable] for variable in sorted(both) if both[variable] != variable}


def why_unmatched(pattern, word, place, first_places, found):
    """What match_fault tells of the parts at a place; first_places and found get what is new of variables."""
    if isinstance(pattern, str):
        if pattern not in found:
            first_places[pattern] = place
            found[pattern] = word
        elif found[pattern] != word:
            return ("twice", list(first_places[pattern]), place)
        return None
    if isinstance(word, str) or pattern[0] != word[0] or len(pattern) != len(word):
        return ("clash", place)
    for index in range(len(pattern) - 1):
        why = why_unmatched(pattern[index + 1], word[index + 1], place + [index], first_places, found)
        if why is not None:
            return why
    return None


def match(pattern, word):
    found = {}
    if why_unmatched(checked_word(pattern), checked_word(word), [], {}, found) is not None:
        return None
    return {variable: found[variable] for variable in sorted(found)}


def match_fault(pattern, word):
    return why_unmatched(checked_word(pattern), checked_word(word), [], {}, {})
