"""Derivations with most general substitutions, of which others are instances."""

from eithershown.binding import Namer
from eithershown.checking import check_derivation
from eithershown.deriving import Deriver
from eithershown.exchange import clause_variables, exchanged, part_at
from eithershown.inference import equality_for, instance
from eithershown.kinds import frozen
from eithershown.rowforms import frozen_row
from eithershown.unifying import most_general


class Shadow:
    """The index of a new row, and the words for all variables of its clause that make it an old row's clause: of these
    no literal is missing, so that each step of the old rows finds what it is about."""

    def __init__(self, index, words):
        self.index = index
        self.words = words

    def atoms_to(self, clause, literal):
        """The atoms of those literals of the clause that become the literal."""
        return [atom for is_so, atom in clause if is_so == literal[0] and exchanged(atom, self.words) == literal[1]]


def alike_pairs(atoms):
    """Pairs that make all atoms one."""
    return [(atoms[0], atom) for atom in atoms[1:]]


def variable_on(word, place):
    """The variable within whose place the indexes lead, None if they lead to a part."""
    for index in place:
        if isinstance(word, str):
            return word
        word = word[index + 1]
    return None


class Lifter:
    """Writes new rows for old ones, keeping a shadow of each old row."""

    def __init__(self, clauses):
        self.clauses = clauses
        self.deriver = Deriver()
        self.shadows = []

    def clause(self, shadow):
        return self.deriver.clause(shadow.index)

    def take(self, row, derivation):
        """The shadow of an old row behind those of the rows ahead."""
        rule, premises, substitutions, spot, _ = frozen_row(row)
        if rule == "given":
            index = self.deriver.given(premises[0], self.clauses[premises[0]])
            return Shadow(index, {name: name for name in clause_variables(self.deriver.clause(index))})
        if len(premises) == 0:
            index = self.deriver.step(rule, [], [], spot)
            return Shadow(index, {name: name for name in clause_variables(self.deriver.clause(index))})
        below = [self.below(premise, words) for premise, words in zip(premises, substitutions)]
        if rule == "resolve":
            return self.resolved(below[0], below[1], spot)
        if rule == "replace":
            source = instance(frozen(derivation[premises[0]][4]), substitutions[0])
            return self.replaced(below[0], below[1], spot, equality_for(source, spot[0], spot[1]))
        return self.same_gone(below[0], spot) if rule == "same" else below[0]

    def below(self, premise, substitution):
        """The shadow of an old row's clause under a substitution."""
        shadow = self.shadows[premise]
        return Shadow(shadow.index, {name: exchanged(shadow.words[name], substitution) for name in shadow.words})

    def instanced(self, shadow, substitution, words):
        """A shadow with another row ahead of its own: an instance, by words for its variables."""
        index = self.deriver.step("instance", [shadow.index], [substitution], None)
        return Shadow(index, {name: words[name] for name in clause_variables(self.deriver.clause(index))})

    def apart(self, shadow, taken):
        """The shadow of a clause that has none of the taken variables."""
        shared = [name for name in shadow.words if name in taken]
        if len(shared) == 0:
            return shadow
        namer = Namer(list(taken) + list(shadow.words))
        called = {name: namer.fresh() for name in sorted(shared)}
        return self.instanced(shadow, called, {called.get(name, name): shadow.words[name] for name in shadow.words})

    def made(self, rule, shadows, pairs, told_spot):
        """The shadow of a new row, by the most general substitution that makes the pairs alike; told_spot tells the
        spot by this."""
        words = {}
        for shadow in shadows:
            words.update(shadow.words)
        general = most_general(pairs)
        parts = [{name: general[name] for name in sorted(shadow.words) if name in general} for shadow in shadows]
        index = self.deriver.step(rule, [shadow.index for shadow in shadows], parts, told_spot(general))
        # What makes the pairs alike is the most general substitution with itself behind.
        return Shadow(index, {name: words[name] for name in clause_variables(self.deriver.clause(index))})

    def resolved(self, one, other, atom):
        other = self.apart(other, one.words)
        stated = one.atoms_to(self.clause(one), (True, atom))
        pairs = alike_pairs(stated + other.atoms_to(self.clause(other), (False, atom)))
        return self.made("resolve", [one, other], pairs, lambda general: exchanged(stated[0], general))

    def same_gone(self, shadow, word):
        atoms = shadow.atoms_to(self.clause(shadow), (False, ("=", word, word)))
        pairs = [(atom[1], atom[2]) for atom in atoms] + alike_pairs(atoms)
        return self.made("same", [shadow], pairs, lambda general: exchanged(atoms[0][1], general))

    def replaced(self, one, other, spot, equality):
        left, right, literal, place = spot
        equalities = one.atoms_to(self.clause(one), equality)
        other = self.with_place(self.apart(other, one.words), literal, place, one.words)
        atoms = other.atoms_to(self.clause(other), literal)
        is_forward = equality[1] == ("=", left, right)
        first, second = equalities[0][1:] if is_forward else equalities[0][1:][::-1]
        pairs = alike_pairs(equalities) + alike_pairs(atoms) + [(part_at(atoms[0], place), first)]

        def told_spot(general):
            told = (literal[0], exchanged(atoms[0], general))
            return exchanged(first, general), exchanged(second, general), told, list(place)

        return self.made("replace", [one, other], pairs, told_spot)

    def with_place(self, shadow, literal, place, taken):
        """The shadow of a clause whose first literal that becomes this one has the place: as long as this lies within
        what stands for a variable, the variable takes its word's head."""
        while True:
            variable = variable_on(shadow.atoms_to(self.clause(shadow), literal)[0], place)
            if variable is None:
                return shadow
            word = shadow.words[variable]
            namer = Namer(list(taken) + list(shadow.words))
            names = [namer.fresh() for _ in word[1:]]
            words = {**shadow.words, **dict(zip(names, word[1:]))}
            shadow = self.instanced(shadow, {variable: word[:1] + tuple(names)}, words)

    def end(self):
        """Lets the last row be that of the last shadow."""
        if len(self.shadows) > 0 and self.shadows[-1].index != len(self.deriver.rows) - 1:
            self.shadows[-1] = Shadow(self.deriver.again(self.shadows[-1].index), self.shadows[-1].words)


def told_shadow(shadow):
    words = shadow.words
    return shadow.index, {name: words[name] for name in sorted(words) if words[name] != name}


def lifted(clauses, derivation):
    check_derivation(clauses, derivation)
    lifter = Lifter(clauses)
    for row in derivation:
        lifter.shadows.append(lifter.take(row, derivation))
    lifter.end()
    return lifter.deriver.rows, [told_shadow(shadow) for shadow in lifter.shadows]
