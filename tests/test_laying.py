"""Clauses laid in clauses: [42], [43]."""

import copy
import itertools
import random
import unittest

from eithershown.errors import BadClause, BadTaken, BadTruth
from eithershown.laying import condensed, form, is_trivial, laid, laid_tree, named_apart
from eithershown.meaning import false_giving
from eithershown.puts import put
from eithershown.words import variables_of
from eithershown.writing import clause_text
from tests.making import SMALL, as_lists, as_tuples, kinds, some_word, some_world
from tests.test_steps import NO_CLAUSES

A, B = ("a",), ("b",)
Q = ("q",)


def p(*words):
    return ("p",) + words


def r(*words):
    return ("r",) + words


def f(*words):
    return ("f",) + words


def yes(*atoms):
    return [(True, atom) for atom in atoms]


def no(*atoms):
    return [(False, atom) for atom in atoms]


def variables_in(clause):
    told = []
    for _, atom in clause:
        told.extend([name for name in variables_of(atom) if name not in told])
    return told


def put_in(clause, words):
    return [(is_so, put(atom, words)) for is_so, atom in clause]


def once(clause):
    return [literal for at, literal in enumerate(clause) if literal not in clause[:at]]


def plain_form(clause):
    """The least text of all orders."""
    told = []
    for order in itertools.permutations(once(clause)):
        names = {name: f"V{at}" for at, name in enumerate(variables_in(order))}
        told.append(put_in(order, names))
    return min(told, key=clause_text)


def plain_laid(one, other, is_strict):
    """Whether some choice of literals goes, and some substitution by it."""
    left, right = once(one), once(other)
    choose = itertools.permutations(right, len(left)) if is_strict else itertools.product(right, repeat=len(left))
    for chosen in choose:
        found = {}
        if all(literal[0] == goal[0] and plain_match(literal[1], goal[1], found) for literal, goal in zip(left, chosen)):
            return True
    return False


def plain_match(pattern, word, found):
    if isinstance(pattern, str):
        return found.setdefault(pattern, word) == word
    if isinstance(word, str) or pattern[0] != word[0] or len(pattern) != len(word):
        return False
    return all([plain_match(one, other, found) for one, other in zip(pattern[1:], word[1:])])


def plain_condensed(clause):
    told = once(clause)
    for many in range(len(told) + 1):
        for lot in itertools.combinations(told, many):
            if plain_laid(told, list(lot), False):
                return plain_form(list(lot))
    return None


def drawn_clause(chance, most, variables=("X", "Y", "Z")):
    told = []
    for _ in range(chance.randrange(most + 1)):
        name, arity = chance.choice([("p", 1), ("r", 2), ("q", 0), ("r", 2), ("=", 2)])
        words = [chance.choice(variables) if chance.random() < 0.6 else some_word(chance, SMALL, 1, variables) for _ in range(arity)]
        told.append((chance.random() < 0.7, (name,) + tuple(words)))
    return told


def caught_in(case, error, ask, thing):
    with case.assertRaises(error) as caught:
        ask(thing)
    case.assertIs(caught.exception.thing, thing)


class FormTests(unittest.TestCase):
    def test_small(self):
        self.assertEqual(form([]), [])
        self.assertEqual(kinds(form([[True, ["p", "X"]], (False, ("q",)), (True, p("X"))])), kinds([(False, Q), (True, p("V0"))]))
        self.assertEqual(form(yes(r("Y", "X"), p("X"))), yes(p("V0"), r("V1", "V0")))
        self.assertEqual(form(yes(p("Y"), p("X"))), yes(p("V0"), p("V1")))
        # One text begins another one.
        self.assertEqual(form(yes(("pq",), ("p",))), yes(("p",), ("pq",)))
        self.assertEqual(form(yes(("p",), ("=", ("p",), A))), yes(("=", ("p",), A), ("p",)))
        self.assertEqual(form(yes(("=", A, ("b",)), ("=", A, ("bb",)))), yes(("=", A, ("b",)), ("=", A, ("bb",))))

    def test_against_all_orders(self):
        chance = random.Random(1)
        for _ in range(400):
            clause = drawn_clause(chance, 5, ("X", "Y", "Z", "V1", "V0"))
            kept = copy.deepcopy(clause)
            self.assertEqual(clause_text(form(clause)), clause_text(plain_form(clause)))
            self.assertEqual(clause, kept)
            names = chance.sample(["V0", "V1", "V2", "X", "Y", "Z9"], 5)
            other = put_in(clause, dict(zip(["X", "Y", "Z", "V1", "V0"], names)))
            chance.shuffle(other)
            self.assertEqual(kinds(form(as_lists(other + other[:1]))), kinds(form(as_tuples(clause))))

    def test_many_like_literals(self):
        self.assertEqual(form(yes(*[p(f"X{at}") for at in range(6)])), yes(*[p(f"V{at}") for at in range(6)]))
        ring = yes(*[r(f"X{at}", f"X{at + 1 if at < 5 else 0}") for at in range(6)])
        self.assertEqual(form(ring), form(ring[3:] + ring[:3]))

    def test_errors(self):
        for thing in NO_CLAUSES:
            for ask in (form, is_trivial, condensed, lambda bad: named_apart(bad, None), lambda bad: laid(bad, None, None),
                        lambda bad: laid([], bad, None), lambda bad: laid_tree(bad, None, None), lambda bad: laid_tree([], bad, None)):
                caught_in(self, BadClause, ask, thing)


class ApartTests(unittest.TestCase):
    def test_named_apart(self):
        clause = [(True, r("X", "V1")), (False, p(f("Y"))), (True, p("X"))]
        self.assertEqual(named_apart(clause, []), clause)
        self.assertEqual(named_apart(clause, ["Z", "V5"]), clause)
        self.assertEqual(kinds(named_apart(as_lists(clause), ("Y", "X", "V0"))),
                         kinds([(True, r("V2", "V1")), (False, p(f("V3"))), (True, p("V2"))]))
        self.assertEqual(named_apart(clause, ["V1"]), [(True, r("X", "V0")), (False, p(f("Y"))), (True, p("X"))])
        self.assertEqual(named_apart(clause, ["X", "X", "V2"]), [(True, r("V0", "V1")), (False, p(f("Y"))), (True, p("V0"))])
        self.assertEqual(named_apart(clause + clause, ["Y"]), named_apart(clause, ["Y"]))

    def test_bad_taken(self):
        for bad in (None, 5, "x", "Xa", "", [], ("X",), A, "X12345678"):
            with self.assertRaises(BadTaken) as caught:
                named_apart([], ["X", "X", bad, None])
            self.assertEqual(caught.exception.index, 2)
        for bad in (None, 5, "X", {}, {"X": "X"}):
            with self.assertRaises(BadTaken) as caught:
                named_apart([], bad)
            self.assertEqual(caught.exception.index, 0)

    def test_is_trivial(self):
        for clause in (yes(Q) + no(Q), no(p("X"), Q) + yes(p("X")), yes(("=", "X", "X")), no(Q) + yes(("=", f(A), f(A)))):
            self.assertIs(is_trivial(as_lists(clause)), True)
        for clause in ([], yes(Q, p("X")) + no(p("Y")), no(("=", "X", "X")), yes(("=", "X", "Y")), yes(("=", A, B)) + no(("=", B, A))):
            self.assertIs(is_trivial(clause), False)


class LaidTests(unittest.TestCase):
    def test_small(self):
        self.assertEqual(laid([], [], True), {})
        self.assertEqual(laid([], yes(Q), True), {})
        self.assertIsNone(laid(yes(Q), [], False))
        self.assertEqual(laid(yes(p("X")), yes(Q, p(f("X"))), True), {"X": f("X")})
        self.assertEqual(laid(yes(p("X"), p("Y")), yes(p(A)), False), {"X": A, "Y": A})
        self.assertIsNone(laid(yes(p("X"), p("Y")), yes(p(A)), True))
        self.assertIsNone(laid(yes(p("X")), no(p(A)), False))
        self.assertIsNone(laid(yes(p(A)), yes(p("X")), False))
        self.assertIsNone(laid(yes(r("X", "X")), yes(r("X", "Y")), False))
        self.assertEqual(laid(yes(p("X"), r("X", "Y")), yes(p(A), p(B), r(B, "X")), True), {"X": B, "Y": "X"})
        # Like ones count once.
        self.assertEqual(laid(yes(p("X"), p("X")), yes(p(A)), True), {"X": A})
        self.assertIsNone(laid(yes(p("X"), p("Y")), yes(p(A), p(A)), True))
        self.assertEqual(list(laid(yes(r("Z", "X")), yes(r(A, B)), False)), ["X", "Z"])
        self.assertIsNone(laid(no(p("X"), p("Y")), no(p("Z")) + yes(Q), True))

    def test_against_all(self):
        chance = random.Random(2)
        seen = {True: 0, False: 0}
        for _ in range(1500):
            one = drawn_clause(chance, 3)
            other = drawn_clause(chance, 4)
            if chance.random() < 0.5:
                other = other + put_in(one, {"X": chance.choice(["Y", A, f("X")]), "Y": chance.choice(["Y", A])})
                chance.shuffle(other)
            for is_strict in (True, False):
                told = laid(chance.choice([one, as_lists(one)]), as_tuples(other), is_strict)
                self.assertEqual(told is not None, plain_laid(one, other, is_strict))
                seen[told is not None] += 1
                if told is not None:
                    self.assertEqual(sorted(told), sorted(variables_in(one)))
                    self.check_laid(one, other, told, is_strict)
                self.assertEqual(laid_tree(as_lists(one), other, is_strict), plain_tree(one, other, is_strict))
        self.assertGreater(min(seen.values()), 300)

    def check_laid(self, one, other, words, is_strict):
        goals = put_in(once(one), words)
        for literal in goals:
            self.assertIn(literal, other)
        if is_strict:
            self.assertEqual(len(once(goals)), len(goals))

    def test_trees(self):
        self.assertIsNone(laid_tree(yes(p("X")), yes(p(A)), True))
        self.assertEqual(laid_tree(yes(Q), [], False), [])
        told = laid_tree(yes(p("X"), p("Y")), yes(p(A)) + no(p(B)), True)
        self.assertEqual(kinds(told), kinds([[("taken",), ("truth",)], ("truth",)]))
        told = laid_tree(yes(r("X", f(A)), p("X")), yes(r(A, f(B)), r(B, f(A)), p(A), Q), False)
        self.assertEqual(kinds(told), kinds([("place", [1, 0]), [("place", []), ("place", []), ("place", [0]), ("place", [])], ("place", []), ("place", [])]))
        self.assertEqual(laid_tree(yes(r("X", "X")), yes(r("Y", "X")), False), [("place", [1])])
        self.assertEqual(laid_tree(yes(r(f("X"), "X")), yes(r("Y", "X")), False), [("place", [0])])
        self.assertEqual(laid_tree(yes(p("X"), p("X"), Q), yes(p(A), p(A)), True), [[("taken",)]])
        self.assertEqual(laid_tree(yes(p("X")) + no(p("X")), yes(p(A)) + no(p(B)), True), [[("truth",), ("place", [0])], ("truth",)])

    def test_bad_truth(self):
        for thing in (None, 0, 1, "True", [], (True,)):
            caught_in(self, BadTruth, lambda bad: laid([], [], bad), thing)
            caught_in(self, BadTruth, lambda bad: laid_tree([], [], bad), thing)

    def test_told_is_new(self):
        tree = laid_tree(yes(p("X"), p("Y")), yes(p(A)), True)
        tree[0].append(None)
        self.assertEqual(laid_tree(yes(p("X"), p("Y")), yes(p(A)), True), [[("taken",)]])


def plain_tree(one, other, is_strict):
    """The document's words, one literal behind the other."""
    left, right = once(one), once(other)
    if plain_laid(one, other, is_strict):
        return None

    def below(at, used, found):
        told = []
        for index, goal in enumerate(right):
            now = dict(found)
            place = first_place(left[at][1], goal[1], [], now)
            if left[at][0] != goal[0]:
                told.append(("truth",))
            elif is_strict and index in used:
                told.append(("taken",))
            elif place is not None:
                told.append(("place", place))
            else:
                told.append(below(at + 1, used + [index], now))
        return told

    return below(0, [], {})


def first_place(pattern, word, place, found):
    if isinstance(pattern, str):
        return None if found.setdefault(pattern, word) == word else place
    if isinstance(word, str) or pattern[0] != word[0] or len(pattern) != len(word):
        return place
    for at in range(len(pattern) - 1):
        told = first_place(pattern[at + 1], word[at + 1], place + [at], found)
        if told is not None:
            return told
    return None


class CondensedTests(unittest.TestCase):
    def test_example(self):
        self.assertEqual(kinds(condensed(as_lists(yes(p("X"), p(A))))), kinds(yes(p(A))))
        self.assertEqual(condensed([]), [])
        self.assertEqual(condensed(yes(r("X", "Y"), r("Y", "Z"), r("Z", "Z"))), yes(r("V0", "V0")))
        self.assertEqual(condensed(yes(r("X", "Y"), r("Y", "X"))), yes(r("V0", "V1"), r("V1", "V0")))

    def test_against_all_lots(self):
        chance = random.Random(3)
        shorter = 0
        for _ in range(300):
            clause = drawn_clause(chance, 5)
            told = condensed(clause)
            self.assertEqual(clause_text(told), clause_text(plain_condensed(clause)))
            self.assertIsNotNone(laid(clause, told, False))
            self.assertIsNotNone(laid(told, clause, True))
            shorter += len(told) < len(once(clause))
        self.assertGreater(shorter, 15)

    def test_it_holds(self):
        chance = random.Random(4)
        for _ in range(150):
            clause = drawn_clause(chance, 4)
            world = some_world(chance, SMALL, 2)
            self.assertEqual(false_giving(world, clause) is None, false_giving(world, condensed(clause)) is None)
            other = drawn_clause(chance, 5)
            if laid(clause, other, False) is not None and false_giving(world, clause) is None:
                self.assertIsNone(false_giving(world, other))


if __name__ == "__main__":
    unittest.main()
