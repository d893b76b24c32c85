"""What words and sentences mean in finite worlds."""

from eithershown.binding import free_in
from eithershown.errors import BadGiving
from eithershown.exchange import clause_variables, variables_in
from eithershown.fitting import BINDERS
from eithershown.tables import is_thing
from eithershown.theories import check_theory
from eithershown.worlds import all_rows


class Sense:
    """A world with the rows of each predicate as the keys of a dict, so that it is asked quickly."""

    def __init__(self, world):
        self.many = world[0]
        self.tables = world[1]
        self.facts = {name: {tuple(row): True for row in world[2][name]} for name in world[2]}

    def worth(self, word, giving):
        if isinstance(word, str):
            return giving[word]
        return self.tables[word[0]][self.worths(word, giving)]

    def worths(self, atom, giving):
        """The values of the words behind a name."""
        told = []
        for word in atom[1:]:
            told.append(self.worth(word, giving))
        return tuple(told)

    def is_fact(self, atom, giving):
        row = self.worths(atom, giving)
        return row[0] == row[1] if atom[0] == "=" else row in self.facts[atom[0]]

    def is_true(self, sentence, giving):
        head = sentence[0]
        if head == "not":
            return not self.is_true(sentence[1], giving)
        if head in BINDERS:
            return self.is_true_bound(sentence, giving)
        if head == "and":
            return self.is_true(sentence[1], giving) and self.is_true(sentence[2], giving)
        if head == "or":
            return self.is_true(sentence[1], giving) or self.is_true(sentence[2], giving)
        if head == "then":
            return not self.is_true(sentence[1], giving) or self.is_true(sentence[2], giving)
        if head == "iff":
            return self.is_true(sentence[1], giving) == self.is_true(sentence[2], giving)
        return self.is_fact(sentence, giving)

    def is_true_bound(self, sentence, giving):
        """An all is false as soon as one thing makes it so, a some true."""
        head, variable, part = sentence
        within = dict(giving)
        for thing in range(self.many):
            within[variable] = thing
            if self.is_true(part, within) == (head == "some"):
                return head == "some"
        return head == "all"

    def is_clause_true(self, clause, giving):
        for is_so, atom in clause:
            if self.is_fact(atom, giving) == is_so:
                return True
        return False


def check_giving(world, variables, giving):
    for variable in variables:
        if variable not in giving or not is_thing(world[0], giving[variable]):
            raise BadGiving(variable)


def value(world, word, giving):
    check_giving(world, sorted(variables_in(word)), giving)
    return Sense(world).worth(word, giving)


def truth(world, sentence, giving):
    check_giving(world, free_in(sentence), giving)
    return Sense(world).is_true(sentence, giving)


def holds(world, sentence):
    return truth(world, sentence, {})


def first_false(world, theory):
    check_theory(theory)
    for name, sentence in theory.axioms():
        if not holds(world, sentence):
            return name
    return None


def false_giving(world, clause):
    sense = Sense(world)
    variables = sorted(clause_variables(clause))
    for row in all_rows(world[0], len(variables)):
        giving = dict(zip(variables, row))
        if not sense.is_clause_true(clause, giving):
            return giving
    return None
