"""Questions that a session answers of a theory."""

from eithershown.asking import clauses_of, first_word, is_crowded, least_clash
from eithershown.binding import same_but_names
from eithershown.grammar import is_closed
from eithershown.kinds import is_list, is_number

BOUND = 500
CROWDED = "crowded"


def is_depth_question(theory, thing, many):
    """Whether it has so many parts: a word, a closed sentence, a depth, perhaps more."""
    return len(thing) == many and is_closed(theory.names(), thing[1]) and is_number(thing[2])


def is_question_of(theory, thing):
    if not is_list(thing) or len(thing) == 0 or not isinstance(thing[0], str):
        return False
    if thing[0] == "ends":
        return is_depth_question(theory, thing, 4) and is_number(thing[3]) and thing[3] > 0
    if thing[0] == "least":
        return is_depth_question(theory, thing, 3)
    labels = [label for label, _ in theory.axioms()]
    return thing[0] == "alike" and len(thing) == 3 and thing[1] in labels and thing[2] in labels


def answer_of(theory, question):
    """The answer of a right question made of tuples."""
    if question[0] == "alike":
        sentences = dict(theory.axioms())
        return same_but_names(sentences[question[1]], sentences[question[2]])
    clauses = clauses_of(theory, question[1])
    if is_crowded(clauses, question[2], BOUND):
        return CROWDED
    if question[0] == "ends":
        return first_word(clauses, question[2], question[3])
    return least_clash(clauses, question[2])
