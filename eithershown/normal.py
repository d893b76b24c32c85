"""Sentences without then and iff, with not at atoms alone, with bound variables called apart."""

from eithershown.binding import names_apart
from eithershown.fitting import BINDERS
from eithershown.kinds import frozen

EXCHANGED = {"and": "or", "or": "and", "all": "some", "some": "all"}


def without_arrows(sentence):
    head = sentence[0]
    if head == "not":
        return ("not", without_arrows(sentence[1]))
    if head in BINDERS:
        return (head, sentence[1], without_arrows(sentence[2]))
    if head in ("and", "or", "then", "iff"):
        left, right = without_arrows(sentence[1]), without_arrows(sentence[2])
        if head == "then":
            return ("or", ("not", left), right)
        if head == "iff":
            return ("and", ("or", ("not", left), right), ("or", ("not", right), left))
        return (head, left, right)
    return sentence


def plain(sentence):
    return without_arrows(frozen(sentence))


def moved_in(sentence, is_denied):
    """The sentence, or its denial, with not at atoms alone."""
    head = sentence[0]
    if head == "not":
        return moved_in(sentence[1], not is_denied)
    told = EXCHANGED[head] if is_denied and head in EXCHANGED else head
    if head in BINDERS:
        return (told, sentence[1], moved_in(sentence[2], is_denied))
    if head in EXCHANGED:
        return (told, moved_in(sentence[1], is_denied), moved_in(sentence[2], is_denied))
    return ("not", sentence) if is_denied else sentence


def inward(sentence):
    return moved_in(frozen(sentence), False)


def normal(sentence):
    return names_apart(inward(plain(sentence)))


def denied(sentence):
    return normal(("not", sentence))
