"""Words and atoms, of right form: their variables, and words put for these."""

from eithershown.kinds import frozen


def variables_in(word):
    """The variables as they first stand."""
    if isinstance(word, str):
        return [word]
    told = []
    for part in word[1:]:
        told.extend([variable for variable in variables_in(part) if variable not in told])
    return told


def clause_variables(clause):
    """The variables of a clause as they first stand."""
    told = []
    for literal in clause:
        told.extend([variable for variable in variables_in(literal[1]) if variable not in told])
    return told


def exchanged(word, substitution):
    """The word with all its variables exchanged at once for what the dict has for them."""
    if isinstance(word, str):
        return substitution.get(word, word)
    told = [word[0]]
    for part in word[1:]:
        told.append(exchanged(part, substitution))
    return tuple(told)


def frozen_substitution(substitution):
    """The substitution ascending, its words made of tuples."""
    return {variable: frozen(substitution[variable]) for variable in sorted(substitution)}


def part_at(word, place):
    """The part to which the indexes lead, None if they lead nowhere."""
    for index in place:
        if isinstance(word, str) or index >= len(word) - 1:
            return None
        word = word[index + 1]
    return word


def with_part(word, place, part):
    """The word with another part at a place that it has."""
    if len(place) == 0:
        return part
    at = place[0] + 1
    return word[:at] + (with_part(word[at], place[1:], part),) + word[at + 1:]
