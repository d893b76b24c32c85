"""Whether an object is a word, an atom, a sentence or a clause, by names that are told or by whatever names.

functions and predicates are dicts from names to how many places they have, None for whatever names. scope is a tuple
of the variables that may stand, None for all. Nothing here calls itself, as any object may be asked about.
"""

from eithershown.kinds import MOST_PLACES, is_list, is_name, is_pair, is_variable

BINDERS = ("all", "some")
JOINERS = ("and", "or", "then", "iff")


def has_places(thing, arities):
    """Whether a list begins with a name that has as many places as things follow."""
    if not isinstance(thing, (list, tuple)) or len(thing) == 0 or not isinstance(thing[0], str):
        return False
    if arities is None:
        return len(thing) <= MOST_PLACES + 1 and is_name(thing[0])
    return arities.get(thing[0]) == len(thing) - 1


def words_fit(words, functions, scope):
    """Whether all things of a list are words."""
    stood = {}
    work = list(words)
    while work:
        part = work.pop()
        if not isinstance(part, str):
            if not has_places(part, functions):
                return False
            work.extend(part[1:])
        elif part not in stood:
            if not is_variable(part) or (scope is not None and part not in scope):
                return False
            stood[part] = True
    return True


def word_fits(thing, functions, scope):
    return words_fit([thing], functions, scope)


def is_equality(thing):
    return is_list(thing) and len(thing) == 3 and thing[0] == "="


def atom_fits(thing, functions, predicates, scope):
    return (is_equality(thing) or has_places(thing, predicates)) and words_fit(thing[1:], functions, scope)


def scope_within(part, scope):
    """What may stand within an all or a some."""
    return None if scope is None else scope + (part[1],)


def sentence_fits(thing, functions, predicates, scope):
    work = [(thing, scope)]
    while work:
        part, around = work.pop()
        if not is_list(part) or len(part) == 0:
            return False
        if part[0] == "not" and len(part) == 2:
            work.append((part[1], around))
        elif part[0] in JOINERS and len(part) == 3:
            work.extend([(part[1], around), (part[2], around)])
        elif part[0] in BINDERS and len(part) == 3 and is_variable(part[1]):
            work.append((part[2], scope_within(part, around)))
        elif not atom_fits(part, functions, predicates, around):
            return False
    return True


def has_literal_form(thing, predicates):
    """Whether it is a literal, if what stands behind its predicate are words."""
    return (is_pair(thing) and (thing[0] is True or thing[0] is False)
            and (is_equality(thing[1]) or has_places(thing[1], predicates)))


def literal_fits(thing, functions, predicates):
    return has_literal_form(thing, predicates) and words_fit(thing[1][1:], functions, None)


def clause_fits(thing, functions, predicates):
    if not is_list(thing):
        return False
    words = []
    for literal in thing:
        if not has_literal_form(literal, predicates):
            return False
        words.extend(literal[1][1:])
    return words_fit(words, functions, None)


def is_any_word(thing):
    return word_fits(thing, None, None)


def is_any_atom(thing):
    return atom_fits(thing, None, None, None)


def is_any_sentence(thing):
    return sentence_fits(thing, None, None, None)


def is_any_literal(thing):
    return literal_fits(thing, None, None)


def is_any_clause(thing):
    return clause_fits(thing, None, None)


def is_any_substitution(thing):
    if not isinstance(thing, dict):
        return False
    for variable in thing:
        if not is_variable(variable) or not is_any_word(thing[variable]):
            return False
    return True
