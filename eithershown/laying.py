"""Clauses laid in clauses, and forms that are one for all that differ by order and names alone."""

from eithershown.binding import Namer
from eithershown.errors import BadTaken, BadTruth
from eithershown.exchange import clause_variables, exchanged, variables_in
from eithershown.kinds import bad_index, is_variable, unlike
from eithershown.puts import why_unmatched
from eithershown.steps import checked_clause
from eithershown.trimming import is_always_true
from eithershown.writing import literal_text


def called_on(literal, called):
    """A literal with its variables called V0, V1, .. on from those that are called, and all that are called by now."""
    now = dict(called)
    for variable in variables_in(literal[1]):
        if variable not in now:
            now[variable] = f"V{len(now)}"
    return (literal[0], exchanged(literal[1], now)), now


def unlike_choices(left, called):
    """The triples (literal, as it is called, all that are called by it) of what can be put next. Of literals that are
    called alike, and whose new variables stand in no other one, the first is enough: the others go on alike."""
    told = []
    stood = {}
    for literal in left:
        named, now = called_on(literal, called)
        others = clause_variables([other for other in left if other != literal])
        is_alone = len([variable for variable in now if variable not in called and variable in others]) == 0
        text = literal_text(named)
        if not is_alone or text not in stood:
            told.append((literal, named, now))
        if is_alone:
            stood[text] = True
    return told


def least_form(literals):
    """The form of unlike literals: they are put one by one, all ways on with the least text being kept."""
    states = [([], literals, {})]
    for at in range(len(literals)):
        # What stands behind a literal, if it is not the last one, counts where one text begins another.
        behind = "" if at == len(literals) - 1 else " or "
        least = None
        found = []
        for told, left, called in states:
            for literal, named, now in unlike_choices(left, called):
                text = literal_text(named) + behind
                if least is None or text < least:
                    least = text
                    found = []
                if text == least:
                    found.append((told + [named], [other for other in left if other != literal], now))
        states = found
    return states[0][0]


def form(clause):
    return least_form(unlike(checked_clause(clause)))


def calls_apart(variables, taken):
    """What those of the variables are called that are taken."""
    namer = Namer(list(taken) + variables)
    return {variable: namer.fresh() for variable in variables if variable in taken}


def apart_from(literals, taken):
    """The literals with those of their variables that are taken called anew."""
    called = calls_apart(clause_variables(literals), taken)
    return [(is_so, exchanged(atom, called)) for is_so, atom in literals]


def named_apart(clause, taken):
    told = unlike(checked_clause(clause))
    index = bad_index(taken, is_variable)
    if index is not None:
        raise BadTaken(index)
    return apart_from(told, taken)


def is_trivial(clause):
    return is_always_true(checked_clause(clause))


def bar(literal, other, is_taken, found):
    """What bars a literal from becoming another one, None if nothing does; found gets what its variables become."""
    if literal[0] != other[0]:
        return ("truth",)
    if is_taken:
        return ("taken",)
    why = why_unmatched(literal[1], other[1], [], {variable: [] for variable in found}, found)
    return None if why is None else ("place", why[-1])


def laying(one, other, is_strict, used, found):
    """A substitution that lays unlike literals in other ones, None if there is none; the first ones are laid in those
    with the used indexes."""
    if len(used) == len(one):
        return found
    for index, literal in enumerate(other):
        now = dict(found)
        if bar(one[len(used)], literal, is_strict and index in used, now) is None:
            told = laying(one, other, is_strict, used + [index], now)
            if told is not None:
                return told
    return None


def bars(one, other, is_strict, used, found):
    """The tree of what bars the next literal of one, where nothing lays it."""
    told = []
    for index, literal in enumerate(other):
        now = dict(found)
        why = bar(one[len(used)], literal, is_strict and index in used, now)
        told.append(bars(one, other, is_strict, used + [index], now) if why is None else why)
    return told


def checked_laying(one, other, is_strict):
    """Both clauses with like literals once, and a substitution by which the one is laid in the other, or None."""
    left, right = unlike(checked_clause(one)), unlike(checked_clause(other))
    if is_strict is not True and is_strict is not False:
        raise BadTruth(is_strict)
    return left, right, laying(left, right, is_strict, [], {})


def laid(one, other, is_strict):
    found = checked_laying(one, other, is_strict)[2]
    return None if found is None else {variable: found[variable] for variable in sorted(found)}


def laid_tree(one, other, is_strict):
    left, right, found = checked_laying(one, other, is_strict)
    return None if found is not None else bars(left, right, is_strict, [], {})


def condensed(clause):
    told = unlike(checked_clause(clause))
    at = 0
    while at < len(told):
        rest = told[:at] + told[at + 1:]
        # What could not go ahead can not go later: all is laid in what is left.
        if laying(told, rest, False, [], {}) is None:
            at += 1
        else:
            told = rest
    return least_form(told)
