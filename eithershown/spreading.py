"""Bare sentences spread into lists of literals, parts named where these lists would be too many."""

from eithershown.bare import is_atomic, literal_of
from eithershown.coining import Coiner
from eithershown.exchange import clause_variables
from eithershown.fitting import BINDERS
from eithershown.kinds import frozen

# How many lists an or may make.
MOST_LISTS = 4


class Spreader:
    """Spreads sentences; more are the lists that say what new names stand for, rows tell these."""

    def __init__(self, coiner):
        self.coiner = coiner
        self.more = []
        self.rows = []

    def lists_of(self, sentence):
        head = sentence[0]
        if head == "and":
            left = self.lists_of(sentence[1])
            return left + self.lists_of(sentence[2])
        if head == "or":
            left = self.lists_of(sentence[1])
            right = self.lists_of(sentence[2])
            if len(left) * len(right) > MOST_LISTS:
                left = self.one_list(left)
                right = self.one_list(right)
            return [one + other for one in left for other in right]
        return [[literal_of(sentence)]]

    def one_list(self, lists):
        """Lists that are several give way to one, of a new name."""
        if len(lists) == 1:
            return lists
        variables = clause_variables([literal for literals in lists for literal in literals])
        name = self.coiner.coin("d")
        atom = (name,) + tuple(variables)
        self.more.extend([[(False, atom)] + literals for literals in lists])
        self.rows.append((name, variables, lists))
        return [[(True, atom)]]


def spread(sentence, taken):
    spreader = Spreader(Coiner(taken))
    lists = spreader.lists_of(frozen(sentence))
    return lists, spreader.more, spreader.rows


def size_of(sentence):
    if is_atomic(sentence):
        return 1
    if sentence[0] == "not":
        return 1 + size_of(sentence[1])
    if sentence[0] in BINDERS:
        return 1 + size_of(sentence[2])
    return 1 + size_of(sentence[1]) + size_of(sentence[2])
