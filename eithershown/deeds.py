"""What deeds make of states."""

from eithershown.errors import BadArity, BadDeed, BadName, BadSentence, HasAxiom
from eithershown.grammar import is_closed
from eithershown.kinds import frozen, is_arity, is_list, is_name
from eithershown.signatures import Names
from eithershown.theories import Theory

# How many parts each deed has, with its word.
PARTS = {"function": 3, "predicate": 3, "forget": 2, "axiom": 3, "drop": 2, "watch": 2, "hold": 2, "free": 2}


def check_deed(thing):
    if not is_list(thing) or len(thing) == 0 or not isinstance(thing[0], str) or PARTS.get(thing[0]) != len(thing):
        raise BadDeed(thing)


def all_names(theory):
    return [name for name, _ in theory.names().functions() + theory.names().predicates()]


def with_name(theory, word, name, arity):
    if not is_name(name) or name in all_names(theory):
        raise BadName(name)
    if not is_arity(arity):
        raise BadArity(arity)
    more = [(name, arity)]
    names = theory.names()
    if word == "function":
        return Theory(Names(names.functions() + more, names.predicates()), theory.axioms())
    return Theory(Names(names.functions(), names.predicates() + more), theory.axioms())


def has_name(sentence, name):
    """Whether a name stands in a sentence; what is no name there is no tuple, or begins with a word of its own."""
    work = [sentence]
    while len(work) > 0:
        part = work.pop()
        if not isinstance(part, str):
            if part[0] == name:
                return True
            work.extend(part[1:])
    return False


def without_name(theory, name):
    if name not in all_names(theory):
        raise BadName(name)
    for label, sentence in theory.axioms():
        if has_name(sentence, name):
            raise HasAxiom(label)
    functions = [pair for pair in theory.names().functions() if pair[0] != name]
    predicates = [pair for pair in theory.names().predicates() if pair[0] != name]
    return Theory(Names(functions, predicates), theory.axioms())


def with_axiom(theory, label, sentence):
    if not is_name(label) or label in dict(theory.axioms()):
        raise BadName(label)
    if not is_closed(theory.names(), sentence):
        raise BadSentence(sentence)
    return Theory(theory.names(), theory.axioms() + [(label, sentence)])


def without_axiom(theory, label):
    if label not in [other for other, _ in theory.axioms()]:
        raise BadName(label)
    return Theory(theory.names(), [axiom for axiom in theory.axioms() if axiom[0] != label])


def state_behind(state, deed):
    """The state behind a deed, and the deed made of tuples."""
    check_deed(deed)
    word = deed[0]
    if word in ("watch", "hold"):
        later = state.with_watched(deed[1], word == "hold")
    elif word == "free":
        later = state.without(deed[1])
    elif word == "axiom":
        later = state.moved(with_axiom(state.basis, deed[1], deed[2]), False)
    elif word == "drop":
        later = state.moved(without_axiom(state.basis, deed[1]), False)
    elif word == "forget":
        # Names in no axiom change no answer.
        later = state.moved(without_name(state.basis, deed[1]), True)
    else:
        later = state.moved(with_name(state.basis, word, deed[1], deed[2]), True)
    return later, frozen(deed)
