"""Derivations shortened, discharged, joined and lifted: [48] to [51]."""

import copy
import random
import unittest

from eithershown.checking import derivation_fault, is_refutation
from eithershown.errors import (BadAtom, BadClauses, BadDerivation, BadLiteral, BadRefutation, Crowded, NotGround)
from eithershown.joining import discharged, joined
from eithershown.levels import level
from eithershown.lifting import lifted
from eithershown.needed import needed_clauses, needed_rows, shortened
from eithershown.puts import put
from eithershown.steps import instance_of
from eithershown.words import variables_of, word_at
from tests.derivations import C, some_clauses, some_derivation
from tests.making import SMALL, THINGS, as_lists, as_tuples, kinds, some_atom
from tests.test_steps import CLAUSES, NO_ATOMS, REFUTATION
from tests.test_unifying import plain_unify

D = ("d",)
Q = ("q",)


def f(*words):
    return ("f",) + words


def g(*words):
    return ("g",) + words


def p(word):
    return ("p", word)


def equal(one, other):
    return ("=", one, other)


def given(clauses, index):
    return ("given", [index], [], None, clauses[index])


def variables_in(clause):
    return sorted({name for _, atom in clause for name in variables_of(atom)})


def drawn(chance, many=14):
    clauses = some_clauses(chance)
    return clauses, some_derivation(chance, clauses, many)


def drawn_level(chance):
    """A refutation of clauses with variables, by ground rows; None if none comes."""
    clauses = some_clauses(chance, 6)
    clauses = clauses + [[(chance.random() < 0.5, some_atom(chance, SMALL, ("X",)))] for _ in range(4)]
    try:
        kind, rows = level(clauses, 1, 150)
    except Crowded:
        return None
    return (clauses, rows) if kind == "clash" else None


class Case(unittest.TestCase):
    def caught(self, error, ask, thing):
        with self.assertRaises(error) as caught:
            ask(thing)
        self.assertIs(caught.exception.thing, thing)

    def check_clause_errors(self, ask):
        for thing in (None, "", {}, 5):
            with self.assertRaises(BadClauses) as caught:
                ask(thing)
            self.assertEqual(caught.exception.index, 0)
        with self.assertRaises(BadClauses) as caught:
            ask([[], [(True, "X")], None])
        self.assertEqual(caught.exception.index, 1)

    def check_rows_kinds(self, rows):
        self.assertIsInstance(rows, list)
        for row in rows:
            self.assertEqual([type(part) for part in row[:3]], [str, list, list])
            self.assertIsInstance(row, tuple)
            self.assertIsInstance(row[4], list)
            for literal in row[4]:
                self.assertIsInstance(literal, tuple)
                self.assertIsInstance(literal[1], tuple)
            if row[0] == "replace":
                self.assertEqual([type(row[3]), type(row[3][3])], [tuple, list])
            for words in row[2]:
                self.assertEqual(list(words), sorted(words))
            self.assertEqual(len(row[4]), len([literal for at, literal in enumerate(row[4]) if literal not in row[4][:at]]))


class NeededTests(Case):
    def test_example(self):
        self.assertEqual(needed_rows(CLAUSES, REFUTATION), [0, 1, 2, 3, 4, 5])
        self.assertEqual(needed_clauses(CLAUSES, REFUTATION), [0, 1, 2])
        self.assertEqual(kinds(shortened(as_lists(CLAUSES), as_lists(REFUTATION))), kinds(list(REFUTATION)))
        self.assertEqual(needed_clauses(CLAUSES, REFUTATION[:5]), [2])
        self.assertEqual(needed_rows(CLAUSES, REFUTATION[:4]), [0, 1, 2, 3])

    def test_empty(self):
        for ask in (needed_rows, shortened, needed_clauses):
            self.assertEqual(ask([], []), [])
            self.assertEqual(ask(CLAUSES, ()), [])

    def test_numbered_anew(self):
        clauses = [[(True, Q)], [(False, Q)], [(True, p(C))], [(False, p("X")), (True, Q)]]
        rows = [given(clauses, 2), given(clauses, 0), given(clauses, 3), ("resolve", [0, 2], [{}, {"X": C}], p(C), [(True, Q), (True, Q)]),
                given(clauses, 1), ("resolve", [3, 4], [{}, {}], Q, [])]
        self.assertEqual(needed_rows(clauses, rows), [0, 2, 3, 4, 5])
        self.assertEqual(needed_clauses(clauses, rows), [1, 2, 3])
        told = shortened(clauses, as_tuples(rows))
        self.assertEqual(kinds(told), kinds([rows[0], rows[2], ("resolve", [0, 1], [{}, {"X": C}], p(C), [(True, Q)]), rows[4],
                                             ("resolve", [2, 3], [{}, {}], Q, [])]))

    def test_drawn(self):
        chance = random.Random(1)
        for _ in range(80):
            clauses, rows = drawn(chance)
            rows = rows[:chance.randrange(1, len(rows) + 1)]
            kept = copy.deepcopy(rows)
            needed = {len(rows) - 1}
            for index in range(len(rows) - 1, -1, -1):
                if index in needed and rows[index][0] != "given":
                    needed |= set(rows[index][1])
            self.assertEqual(needed_rows(clauses, as_lists(rows)), sorted(needed))
            told = shortened(clauses, rows)
            self.assertEqual(rows, kept)
            self.check_rows_kinds(told)
            self.assertIsNone(derivation_fault(clauses, told))
            self.assertEqual([row[4] for row in told], [instance_of(rows[index][4], {}) for index in sorted(needed)])
            self.assertEqual(needed_rows(clauses, told), list(range(len(told))))
            self.assertEqual(needed_clauses(clauses, rows), sorted({row[1][0] for row in told if row[0] == "given"}))

    def test_errors(self):
        for ask in (needed_rows, shortened, needed_clauses):
            self.check_clause_errors(lambda bad: ask(bad, None))
            for thing in THINGS:
                if thing != [] and thing != ():
                    self.caught(BadDerivation, lambda bad: ask(CLAUSES, bad), thing)
            self.caught(BadDerivation, lambda bad: ask(CLAUSES, bad), REFUTATION[1:])

    def test_told_is_new(self):
        rows = [given(CLAUSES, 1)]
        told = shortened(CLAUSES, rows)
        told[0][1].append(7)
        told[0][4].append(7)
        self.assertEqual(rows, [given(CLAUSES, 1)])


class DischargedTests(Case):
    def check(self, clauses, literal, rows):
        told = discharged(clauses, literal, rows)
        self.check_rows_kinds(told)
        self.assertIsNone(derivation_fault(clauses, told))
        contrary = (not literal[0], literal[1])
        for part in told[-1][4]:
            self.assertIn(part, rows[-1][4] + [contrary])
        return told

    def test_small(self):
        clauses = [[(False, p("X")), (True, Q)]]
        rows = [("given", [1], [], None, [(True, p(C))]), given(clauses, 0), ("resolve", [0, 1], [{}, {"X": C}], p(C), [(True, Q)])]
        told = self.check(clauses, (True, p(C)), rows)
        self.assertEqual(sorted(told[-1][4]), [(False, p(C)), (True, Q)])
        self.assertEqual(discharged(clauses, (True, p(C)), []), [])
        self.assertEqual(kinds(discharged(as_lists(clauses), as_lists((True, p(C))), as_lists(rows))), kinds(told))
        self.assertEqual(self.check(clauses, (True, p(C)), rows[:1])[-1][4], [(True, p(C)), (False, p(C))])

    def test_an_equality_that_stands_both_ways(self):
        """The contrary is c = d, what is put is by d = c: the contrary goes first, d = c must not stay."""
        literal = (False, equal(C, D))
        clauses = [[(True, equal(D, C)), (True, equal(C, D))], [(True, p(C))]]
        rows = [("given", [2], [], None, [literal]), given(clauses, 0), ("resolve", [1, 0], [{}, {}], equal(C, D), [(True, equal(D, C))]),
                given(clauses, 1), ("replace", [2, 3], [{}, {}], (C, D, (True, p(C)), [0]), [(True, p(D))])]
        self.assertIsNone(derivation_fault(clauses + [[literal]], rows))
        self.check(clauses, literal, rows)
        back = rows[:4] + [("instance", [2], [{}], None, [(True, equal(D, C))]), ("replace", [4, 3], [{}, {}], (C, D, (True, p(C)), [0]), [(True, p(D))])]
        self.check(clauses, literal, back)
        self.check(clauses, literal, rows + [("replace", [2, 4], [{}, {}], (D, C, (True, p(D)), [0]), [(True, p(C))])])
        both = rows[:2] + [given(clauses, 1), ("replace", [1, 2], [{}, {}], (C, D, (True, p(C)), [0]), [(True, equal(D, C)), (True, p(D))])]
        self.check(clauses, literal, both)

    def test_such_an_equality_by_a_substitution(self):
        literal = (False, equal(C, D))
        clauses = [[(True, equal(D, "X")), (True, equal(C, D))], [(True, p("Y"))]]
        rows = [("given", [2], [], None, [literal]), given(clauses, 0), ("resolve", [1, 0], [{}, {}], equal(C, D), [(True, equal(D, "X"))]),
                given(clauses, 1), ("replace", [2, 3], [{"X": C}, {"Y": C}], (C, D, (True, p(C)), [0]), [(True, p(D))])]
        self.assertIsNone(derivation_fault(clauses + [[literal]], rows))
        self.check(clauses, literal, rows)

    def test_drawn(self):
        chance = random.Random(2)
        kept_apart = 0
        for _ in range(120):
            clauses, _ = drawn(chance, 0)
            atom = some_atom(chance, SMALL, ()) if chance.random() < 0.5 else equal(C, f(C))
            literal = (chance.random() < 0.5, atom)
            rows = some_derivation(chance, clauses + [[literal]], 16)
            self.assertIsNone(derivation_fault(clauses + [[literal]], rows))
            kept = copy.deepcopy(rows)
            for many in chance.sample(range(1, len(rows)), 5) + [len(rows)]:
                self.check(clauses, literal, rows[:many])
            self.assertEqual(rows, kept)
            kept_apart += (not literal[0], atom) in discharged(clauses, literal, rows)[-1][4]
        self.assertGreater(kept_apart, 10)

    def test_errors_in_order(self):
        clauses = [[(True, Q)]]
        self.check_clause_errors(lambda bad: discharged(bad, None, None))
        for thing in (None, Q, (1, Q), (True, "X"), [], "", (True, Q, Q)):
            self.caught(BadLiteral, lambda bad: discharged(clauses, bad, None), thing)
        for thing in ((True, p("X")), [False, ["=", ["c"], "X"]]):
            self.caught(NotGround, lambda bad: discharged(clauses, bad, None), thing)
        for thing in THINGS:
            if thing != [] and thing != ():
                self.caught(BadDerivation, lambda bad: discharged(clauses, (True, Q), bad), thing)
        self.caught(BadDerivation, lambda bad: discharged(clauses, (True, Q), bad), [("given", [2], [], None, [])])
        self.caught(BadDerivation, lambda bad: discharged(clauses, (True, Q), bad), [("given", [1], [], None, [(False, Q)])])


class JoinedTests(Case):
    def check(self, clauses, atom, one, other):
        told = joined(clauses, atom, one, other)
        self.check_rows_kinds(told)
        self.assertTrue(is_refutation(clauses, told))
        return told

    def test_small(self):
        clauses = [[(False, Q), (True, p(C))], [(True, Q), (True, p(C))], [(False, p(C))]]
        one = [("given", [3], [], None, [(True, Q)]), given(clauses, 0), ("resolve", [0, 1], [{}, {}], Q, [(True, p(C))]), given(clauses, 2),
               ("resolve", [2, 3], [{}, {}], p(C), [])]
        other = [("given", [3], [], None, [(False, Q)]), given(clauses, 1), ("resolve", [1, 0], [{}, {}], Q, [(True, p(C))]), given(clauses, 2),
                 ("resolve", [2, 3], [{}, {}], p(C), [])]
        told = self.check(clauses, Q, one, other)
        self.assertEqual(kinds(joined(as_lists(clauses), ["q"], as_tuples(one), as_lists(other))), kinds(told))
        self.caught(BadRefutation, lambda bad: joined(clauses, Q, bad, None), other)
        self.caught(BadRefutation, lambda bad: joined(clauses, Q, one, bad), one)
        self.caught(BadRefutation, lambda bad: joined(clauses, Q, bad, other), one[:4])

    def test_one_that_needs_no_atom(self):
        clauses = [[(True, Q)], [(False, Q)]]
        plain = [given(clauses, 0), given(clauses, 1), ("resolve", [0, 1], [{}, {}], Q, [])]
        by_atom = [("given", [2], [], None, [(True, Q)]), given(clauses, 1), ("resolve", [0, 1], [{}, {}], Q, [])]
        denied = [("given", [2], [], None, [(False, Q)]), given(clauses, 0), ("resolve", [1, 0], [{}, {}], Q, [])]
        for one in (plain, by_atom):
            for other in (plain, denied):
                self.check(clauses, Q, one, other)

    def test_drawn(self):
        chance = random.Random(3)
        found = 0
        while found < 40:
            made = drawn_level(chance)
            if made is None:
                continue
            clauses, rows = made
            atom = chance.choice([some_atom(chance, SMALL, ()), equal(C, f(C))])
            sides = []
            for truth in (True, False):
                try:
                    sides.append(level(clauses + [[(truth, atom)]], 1, 200))
                except Crowded:
                    sides.append(("crowded", []))
            if [kind for kind, _ in sides] == ["clash", "clash"]:
                self.check(clauses, atom, sides[0][1], sides[1][1])
                self.check(clauses, atom, sides[0][1], rows)
                found += 1

    def test_drawn_ground(self):
        """Clauses that clash with either truth of an atom alone."""
        chance = random.Random(4)
        found = 0
        while found < 60:
            words = [C, f(C), D]
            atoms = [equal(one, other) for one in words for other in words] + [p(word) for word in words]
            clauses = [[(chance.random() < 0.5, chance.choice(atoms)) for _ in range(2)] for _ in range(7)]
            atom = chance.choice(atoms)
            sides = [level(clauses + [[(truth, atom)]], 0, 50) for truth in (True, False)]
            if [kind for kind, _ in sides] == ["clash", "clash"]:
                self.check(clauses, atom, sides[0][1], sides[1][1])
                found += 1

    def test_errors_in_order(self):
        clauses = [[(True, Q)], [(False, Q)]]
        self.check_clause_errors(lambda bad: joined(bad, None, None, None))
        for thing in NO_ATOMS:
            self.caught(BadAtom, lambda bad: joined(clauses, bad, None, None), thing)
        for thing in (p("X"), ["=", ["c"], "X"]):
            self.caught(NotGround, lambda bad: joined(clauses, bad, None, None), thing)
        plain = [given(clauses, 0), given(clauses, 1), ("resolve", [0, 1], [{}, {}], Q, [])]
        for thing in THINGS:
            self.caught(BadRefutation, lambda bad: joined(clauses, Q, bad, None), thing)
            self.caught(BadRefutation, lambda bad: joined(clauses, Q, plain, bad), thing)


class LiftedTests(Case):
    def check(self, clauses, rows):
        told = lifted(clauses, rows)
        self.assertIsInstance(told, tuple)
        new, shadows = told
        self.check_rows_kinds(new)
        self.assertIsNone(derivation_fault(clauses, new))
        self.assertEqual(len(shadows), len(rows))
        for row, shadow in zip(rows, shadows):
            self.assertIsInstance(shadow, tuple)
            self.assertEqual(list(shadow[1]), sorted(shadow[1]))
            for literal in instance_of(new[shadow[0]][4], shadow[1]):
                self.assertIn(literal, row[4])
        for row in new:
            self.check_general(new, row)
        self.assertEqual(is_refutation(clauses, rows), is_refutation(clauses, new) and len(rows[-1][4]) == 0)
        return told

    def check_general(self, new, row):
        rule, premises, substitutions, spot, _ = row
        sources = [new[premise][4] for premise in premises] if rule != "given" else []
        if rule == "instance":
            self.check_instance(sources[0], substitutions[0])
        if rule in ("resolve", "replace", "same"):
            names = [name for source in sources for name in variables_in(source)]
            self.assertEqual(len(names), len(set(names)))
            words = {}
            for source, substitution in zip(sources, substitutions):
                self.assertLessEqual(set(substitution), set(variables_in(source)))
                words.update(substitution)
            pairs = self.pairs_of(rule, sources, words, spot)
            general = plain_unify(pairs)
            self.assertEqual(words, {name: general[name] for name in general if name in names})

    def pairs_of(self, rule, sources, words, spot):
        """What the row makes alike."""
        def those(source, truth, *goals):
            return [atom for is_so, atom in source if is_so == truth and put(atom, words) in goals]

        def alike(atoms):
            self.assertGreater(len(atoms), 0)
            return [(atoms[0], atom) for atom in atoms[1:]]

        if rule == "resolve":
            return alike(those(sources[0], True, spot) + those(sources[1], False, spot))
        if rule == "same":
            atoms = those(sources[0], False, equal(spot, spot))
            return [(atom[1], atom[2]) for atom in atoms] + alike(atoms)
        left, right, literal, place = spot
        atoms = those(sources[1], literal[0], literal[1])
        forward, back = those(sources[0], True, equal(left, right)), those(sources[0], True, equal(right, left))
        equalities = forward if forward else back
        side = equalities[0][1] if forward else equalities[0][2]
        return alike(equalities) + alike(atoms) + [(word_at(atoms[0], place), side)]

    def check_instance(self, source, substitution):
        words = list(substitution.values())
        old = variables_in(source)
        self.assertLessEqual(set(substitution), set(old))
        if all(isinstance(word, str) for word in words):
            self.assertEqual(len(set(words)), len(words))
            self.assertFalse(set(words) & set(old))
        else:
            self.assertEqual(len(words), 1)
            parts = words[0][1:]
            self.assertTrue(all(isinstance(part, str) for part in parts))
            self.assertEqual(len(set(parts)), len(parts))
            self.assertFalse(set(parts) & set(old))

    def test_example(self):
        rows, shadows = self.check(CLAUSES, REFUTATION)
        self.assertEqual(kinds(lifted(as_lists(CLAUSES), as_lists(REFUTATION))), kinds((rows, shadows)))
        self.assertEqual(lifted([], []), ([], []))
        self.assertTrue(is_refutation(CLAUSES, rows))

    def test_a_place_within_a_variable(self):
        clauses = [[(True, equal(C, D))], [(True, ("r", "X", "Y")), (False, p("X"))]]
        word = g(f(C), D)
        rows = [given(clauses, 0), given(clauses, 1),
                ("replace", [0, 1], [{}, {"X": word, "Y": C}], (C, D, (True, ("r", word, C)), [0, 0, 0]),
                 [(False, p(word)), (True, ("r", g(f(D), D), C))])]
        self.assertIsNone(derivation_fault(clauses, rows))
        new, shadows = self.check(clauses, rows)
        self.assertEqual([row[0] for row in new].count("instance"), 2)
        deeper = rows[:2] + [("replace", [0, 1], [{}, {"X": word, "Y": C}], (f(C), f(D), (True, ("r", word, C)), [0, 0]), [])]
        self.assertEqual(derivation_fault(clauses, deeper), (2, "spot"))

    def test_what_becomes_alike(self):
        clauses = [[(True, p("X")), (True, p("Y"))], [(False, p("X")), (False, p("Y"))]]
        rows = [given(clauses, 0), given(clauses, 1), ("resolve", [0, 1], [{"X": C, "Y": C}, {"X": C, "Y": C}], p(C), [])]
        new, _ = self.check(clauses, rows)
        self.assertTrue(is_refutation(clauses, new))
        clauses = [[(True, equal("X", C)), (True, equal("Y", C))], [(False, p("X")), (False, p("Y"))], [(False, equal("X", "Y")), (False, equal("X", C))]]
        rows = [given(clauses, 0), given(clauses, 1), given(clauses, 2),
                ("replace", [0, 1], [{"X": D, "Y": D}, {"X": C, "Y": C}], (C, D, (False, p(C)), [0]), [(False, p(D))]),
                ("same", [2], [{"X": C, "Y": C}], C, [])]
        self.check(clauses, rows)

    def test_a_literal_that_is_gone_already(self):
        clauses = [[(True, Q), (True, p("X"))], [(True, p(C))], [(False, p(C))], [(False, Q)]]
        rows = [given(clauses, 1), ("instance", [0], [{}], None, [(True, p(C))]), given(clauses, 2), ("resolve", [1, 2], [{}, {}], p(C), []),
                given(clauses, 3), ("instance", [3], [{"X": C}], None, [])]
        new, shadows = self.check(clauses, rows)
        self.assertEqual(new[-1][4], [])
        self.assertTrue(is_refutation(clauses, new))
        self.assertEqual(shadows[-1][0], len(new) - 1)

    def test_drawn(self):
        chance = random.Random(5)
        rules = {}
        for _ in range(200):
            clauses, rows = drawn(chance, 18)
            self.assertIsNone(derivation_fault(clauses, rows))
            kept = copy.deepcopy(rows)
            new, _ = self.check(clauses, rows)
            self.assertEqual(rows, kept)
            for row in new:
                rules[row[0]] = rules.get(row[0], 0) + 1
        self.assertEqual(len(rules), 11)
        self.assertGreater(min(rules.values()), 20)

    def test_drawn_refutations(self):
        chance = random.Random(6)
        found = 0
        while found < 80:
            made = drawn_level(chance)
            if made is not None:
                clauses, rows = made
                new, _ = self.check(clauses, rows)
                self.assertTrue(is_refutation(clauses, new))
                found += 1

    def test_at_the_limits(self):
        """A row of three hundred rows, with words twenty deep."""
        def tower(many, word):
            for _ in range(many):
                word = f(word)
            return word

        clauses = [[(False, p("X")), (True, p(f("X")))], [(True, p(C))], [(True, equal(f(f("X")), "X"))]]
        rows = [given(clauses, 1), given(clauses, 0), given(clauses, 2)]
        last, deep = 0, 0
        while len(rows) < 300:
            if deep < 20:
                word = tower(deep, C)
                rows.append(("resolve", [last, 1], [{}, {"X": word}], p(word), [(True, p(f(word)))]))
                deep += 1
            else:
                word = tower(deep, C)
                rows.append(("replace", [2, last], [{"X": tower(deep - 6, C)}, {}], (tower(deep - 4, C), tower(deep - 6, C), (True, p(word)), [0, 0, 0, 0, 0]),
                             [(True, p(tower(deep - 2, C)))]))
                deep -= 2
            last = len(rows) - 1
        self.assertIsNone(derivation_fault(clauses, rows))
        new, shadows = self.check(clauses, rows)
        wide = [[(True, p(f"X{at}")) for at in range(40)], [(False, p("X"))]]
        rows = [given(wide, 0), given(wide, 1)]
        for at in range(39):
            left = [(True, p(f"X{later}")) for later in range(at + 1, 40)]
            rows.append(("resolve", [len(rows) - 1 if at else 0, 1], [{}, {"X": f"X{at}"}], p(f"X{at}"), left))
        self.assertIsNone(derivation_fault(wide, rows))
        self.check(wide, rows)
        word = "X"
        for _ in range(7):
            word = g(word, f(word))
        great = [[(True, p(word))], [(False, p("Y"))]]
        rows = [given(great, 0), given(great, 1), ("resolve", [0, 1], [{"X": C}, {"Y": put(word, {"X": C})}], p(put(word, {"X": C})), [])]
        self.assertIsNone(derivation_fault(great, rows))
        self.check(great, rows)

    def test_errors(self):
        self.check_clause_errors(lambda bad: lifted(bad, None))
        for thing in THINGS:
            if thing != [] and thing != ():
                self.caught(BadDerivation, lambda bad: lifted(CLAUSES, bad), thing)


if __name__ == "__main__":
    unittest.main()
