"""Derivations from what a search for truths resolved."""

from eithershown.deriving import Deriver
from eithershown.inference import with_word


class Refuter:
    """Writes the rows for the clauses of a search on which its empty clause hangs."""

    def __init__(self, search, clauses):
        self.search = search
        self.atoms = search.ground.atoms
        self.clauses = clauses
        self.deriver = Deriver()
        self.homes = {}
        self.choices = {}

    def needed_numbers(self):
        """The numbers of the clauses that are needed, ascending: each hangs on lesser ones."""
        needed = {self.search.clash: True}
        for number in range(self.search.clash, -1, -1):
            origin = self.search.origins[number]
            if number in needed and origin[0] == "resolved":
                needed[origin[1]] = True
                needed.update({other: True for other, _ in origin[2]})
        return sorted(needed)

    def rows(self):
        for number in self.needed_numbers():
            origin = self.search.origins[number]
            if origin[0] == "given":
                self.homes[number] = self.deriver.given(origin[1], self.clauses[origin[1]])
            elif origin[0] == "resolved":
                self.homes[number] = self.resolved_row(origin)
            else:
                self.homes[number] = self.chained_row(origin)
        return self.deriver.rows

    def resolved_row(self, origin):
        row = self.homes[origin[1]]
        for number, at in origin[2]:
            atom, other = self.atoms[at], self.homes[number]
            is_stated = (True, atom) in self.deriver.clause(row)
            row = self.deriver.plain_step("resolve", [row, other] if is_stated else [other, row], atom)
        return row

    def choice_row(self, atom, number):
        """The row that says that an atom is true or not, once for each."""
        if number not in self.choices:
            self.choices[number] = self.deriver.plain_step("either", [], atom)
        return self.choices[number]

    def chained_row(self, origin):
        """What a chain of equalities makes of a word that is itself, or of an atom that is true or not."""
        kind, true_number, false_number, chain = origin
        if kind == "alike":
            word = self.atoms[false_number][1]
            literal = (True, ("=", word, word))
            row = self.deriver.plain_step("alike", [], word)
        else:
            literal = (True, self.atoms[true_number])
            row = self.choice_row(self.atoms[true_number], true_number)
        for label, is_forward, place in chain:
            left, right = self.atoms[label][1:] if is_forward else self.atoms[label][1:][::-1]
            at = [1] + place if kind == "alike" else place
            equality = self.choice_row(self.atoms[label], label)
            row = self.deriver.plain_step("replace", [equality, row], (left, right, literal, at))
            literal = with_word(literal, at, right)
        return row
