"""Which variables are bound and which are free, and words put for free ones."""

from eithershown.exchange import exchanged, variables_in
from eithershown.fitting import BINDERS, JOINERS
from eithershown.kinds import frozen


def standing(sentence, is_free):
    """A dict that has as keys the free variables; or all, also those that stand behind all and some alone."""
    head = sentence[0]
    if head == "not":
        return standing(sentence[1], is_free)
    if head in JOINERS:
        return {**standing(sentence[1], is_free), **standing(sentence[2], is_free)}
    if head in BINDERS:
        within = standing(sentence[2], is_free)
        if is_free:
            return {variable: True for variable in within if variable != sentence[1]}
        return {**within, sentence[1]: True}
    return {variable: True for variable in variables_in(sentence)}


def free_in(sentence):
    return sorted(standing(sentence, True))


class Namer:
    """Tells V0, V1, .. but for those that are taken."""

    def __init__(self, taken):
        self.taken = taken
        self.count = 0

    def fresh(self):
        while f"V{self.count}" in self.taken:
            self.count += 1
        self.count += 1
        return f"V{self.count - 1}"


def called_apart(sentence, called, namer):
    """The sentence with bound variables called by the namer, called being a dict from variables to new names."""
    head = sentence[0]
    if head == "not":
        return ("not", called_apart(sentence[1], called, namer))
    if head in JOINERS:
        left = called_apart(sentence[1], called, namer)
        return (head, left, called_apart(sentence[2], called, namer))
    if head in BINDERS:
        name = namer.fresh()
        return (head, name, called_apart(sentence[2], {**called, sentence[1]: name}, namer))
    return exchanged(sentence, called)


def names_apart(sentence):
    told = frozen(sentence)
    return called_apart(told, {}, Namer(standing(told, True)))


def same_but_names(one, other):
    # New names are neither free nor told twice, so they are told alike just where bound variables go together.
    return names_apart(one) == names_apart(other)


def put_in(sentence, words):
    head = sentence[0]
    if head == "not":
        return ("not", put_in(sentence[1], words))
    if head in JOINERS:
        return (head, put_in(sentence[1], words), put_in(sentence[2], words))
    if head in BINDERS:
        return put_within(sentence, words)
    return exchanged(sentence, words)


def put_within(part, words):
    """An all or a some with words put for what is free in it, its own variable called anew if it stands in them."""
    head, variable, sentence = part
    free = standing(part, True)
    left = {name: words[name] for name in words if name in free}
    taken = standing(part, False)
    is_caught = False
    for name in left:
        within = variables_in(left[name])
        is_caught = is_caught or variable in within
        taken.update({other: True for other in within})
    if not is_caught:
        return (head, variable, put_in(sentence, left))
    fresh = Namer(taken).fresh()
    return (head, fresh, put_in(sentence, {**left, variable: fresh}))


def substituted(sentence, words):
    return put_in(frozen(sentence), {variable: frozen(words[variable]) for variable in words})
