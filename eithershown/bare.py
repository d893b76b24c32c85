"""Literal sentences: atoms and denials of atoms."""

from eithershown.fitting import BINDERS, JOINERS


def is_atomic(sentence):
    return sentence[0] != "not" and sentence[0] not in BINDERS and sentence[0] not in JOINERS


def is_literal_sentence(sentence):
    return is_atomic(sentence) or (sentence[0] == "not" and is_atomic(sentence[1]))


def literal_of(sentence):
    """The literal that a literal sentence says."""
    return (False, sentence[1]) if sentence[0] == "not" else (True, sentence)
