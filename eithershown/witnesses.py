"""New functions that tell what some speaks of."""

from eithershown.binding import put_in, standing
from eithershown.coining import Coiner
from eithershown.kinds import frozen


def with_witnesses(sentence, coiner, rows):
    """A normal sentence without some; rows get what each new function is a witness of."""
    head = sentence[0]
    if head == "all":
        return (head, sentence[1], with_witnesses(sentence[2], coiner, rows))
    if head in ("and", "or"):
        left = with_witnesses(sentence[1], coiner, rows)
        return (head, left, with_witnesses(sentence[2], coiner, rows))
    if head != "some":
        return sentence
    variables = list(standing(sentence, True))
    name = coiner.coin("s")
    rows.append((name, variables, sentence[1], sentence[2]))
    word = (name,) + tuple(variables)
    return with_witnesses(put_in(sentence[2], {sentence[1]: word}), coiner, rows)


def witnessed(sentence, taken):
    rows = []
    told = with_witnesses(frozen(sentence), Coiner(taken), rows)
    return told, rows
