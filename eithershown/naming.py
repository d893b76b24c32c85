"""Names for the sides of iff, so that these stay short when they are told without iff."""

from eithershown.bare import is_atomic, is_literal_sentence
from eithershown.binding import standing
from eithershown.coining import Coiner
from eithershown.fitting import BINDERS
from eithershown.kinds import frozen


def side_named(side, coiner, rows):
    """The atom that stands for a side, and a row more; a literal sentence stays."""
    if is_literal_sentence(side):
        return side
    variables = list(standing(side, True))
    name = coiner.coin("d")
    rows.append((name, variables, side))
    return (name,) + tuple(variables)


def with_sides_named(sentence, coiner, rows):
    """The sentence with new names; rows get what each stands for."""
    head = sentence[0]
    if is_atomic(sentence):
        return sentence
    if head == "not":
        return ("not", with_sides_named(sentence[1], coiner, rows))
    if head in BINDERS:
        return (head, sentence[1], with_sides_named(sentence[2], coiner, rows))
    left = with_sides_named(sentence[1], coiner, rows)
    right = with_sides_named(sentence[2], coiner, rows)
    if head == "iff":
        left = side_named(left, coiner, rows)
        right = side_named(right, coiner, rows)
    return (head, left, right)


def sides_named(sentence, taken):
    rows = []
    told = with_sides_named(frozen(sentence), Coiner(taken), rows)
    return told, rows
