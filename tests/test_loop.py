"""Conclusions, the loop, saturated clauses, the world by the order: [70] to [74], [79]."""

import copy
import itertools
import random
import unittest

from eithershown.candidate import fails_at, maker
from eithershown.checking import is_refutation
from eithershown.conclusions import conclusions, factors
from eithershown.errors import BadArities, BadClause, BadClauses, BadNumber, BadOrder, NotGround
from eithershown.laying import form, is_trivial, laid, named_apart
from eithershown.lightwords import LightWords
from eithershown.loop import loop, saturation_fault
from eithershown.meaning import false_giving
from eithershown.orders import Order, compare
from eithershown.puts import put
from eithershown.signatures import Names
from eithershown.unifying import unify
from eithershown.words import variables_of
from eithershown.writing import clause_text, written
from tests.making import THINGS, as_lists, as_tuples, kinds, some_literal, some_world
from tests.test_ground import A, B, Q, Case, equal, f, g, no, p, yes

ORDER = Order([("a", 1), ("b", 1), ("f", 1), ("g", 1), ("q", 1), ("p", 1), ("r", 1)])
NAMES = Names([("a", 0), ("b", 0), ("f", 1)], [("p", 1), ("q", 0), ("r", 2)])
ARITIES = [("a", 0), ("b", 0), ("f", 1)]
CHAIN = [yes(p(A)), no(p("X")) + yes(p(f("X")))]


def r(one, other):
    return ("r", one, other)


def drawn_clause(chance, most, names=NAMES):
    told = []
    for _ in range(chance.randrange(most + 1)):
        literal = some_literal(chance, names)
        while literal[1][0] == "=":
            literal = some_literal(chance, names)
        told.append(literal)
    return told


def clause_letters(clause):
    return sorted({letter for _, atom in clause for word in atom[1:] for letter in variables_of(word)})


def moved(clause, words):
    return [(is_so, (atom[0],) + tuple(put(word, words) for word in atom[1:])) for is_so, atom in clause]


def is_greatest(order, clause, index):
    return all(compare(order, other, clause[index][1]) != "above" for _, other in clause)


def plain_conclusions(order, one, other):
    told = []
    called = {letter: f"W{at}" for at, letter in enumerate(clause_letters(other))}
    apart = moved(other, called)
    for index, later in itertools.product(range(len(one)), range(len(other))):
        if one[index][0] and not other[later][0] and is_greatest(order, one, index) and is_greatest(order, other, later):
            words = unify([(one[index][1], apart[later][1])])
            if words is not None:
                left, right = moved(one, words), moved(apart, words)
                rest = [literal for literal in left if literal != left[index]] + [literal for literal in right if literal != right[later]]
                told.append((index, later, form(rest)))
    return told


def plain_factors(order, clause):
    told = []
    for index, later in itertools.permutations(range(len(clause)), 2):
        if clause[index][0] and clause[later][0] and is_greatest(order, clause, index):
            words = unify([(clause[index][1], clause[later][1])])
            if words is not None:
                told.append((index, later, form(moved(clause[:later] + clause[later + 1:], words))))
    return told


def clause_weight(order, clause):
    weights = dict(order.rows())

    def weight(word):
        return 1 if isinstance(word, str) else weights[word[0]] + sum(weight(part) for part in word[1:])
    return sum(weight(atom) for _, atom in clause)


def plain_loop(order, clauses, rounds):
    """The loop as the document words it; of what is refuted the word alone."""
    stood = [form(clause) for clause in clauses]
    waiting = [clause for at, clause in enumerate(stood) if clause not in stood[:at]]
    kept = []
    for _ in range(rounds):
        if not waiting:
            break
        waiting.sort(key=lambda clause: (clause_weight(order, clause), clause_text(clause)))
        taken = waiting.pop(0)
        if taken == []:
            return "refuted"
        if is_trivial(taken) or any(laid(other, taken, True) is not None for other in kept):
            continue
        kept = [other for other in kept if laid(taken, other, True) is None] + [taken]
        made = [row[2] for other in kept for row in conclusions(order, taken, other) + conclusions(order, other, taken)]
        for clause in made + [row[2] for row in factors(order, taken)]:
            if clause not in stood:
                stood.append(clause)
                waiting.append(clause)
    return ("open" if waiting else "saturated", sorted(kept, key=clause_text))


class OrderedCase(Case):
    def check_order_errors(self, ask):
        for bad in (None, 5, "order", [], [("a", 1)], NAMES):
            self.caught(BadOrder, ask, bad)

    def bad_clauses(self):
        return (None, 5, {}, "clause", [None], [("p", A)], [(1, Q)], yes(equal(A, B)), no(Q) + no(equal("X", "X")), yes(("s",)), yes(p(("c",))), no(p(f(("h", "X")))),
                yes(Q, ("p", f(f(("c",))))))

    def check_bad_clauses(self, ask):
        for bad in (None, 5, {}, "", True):
            self.caught_at(BadClauses, 0, lambda: ask(bad))
        for bad in self.bad_clauses():
            self.caught_at(BadClauses, 1, lambda: ask([yes(Q), bad, None]))
            self.caught_at(BadClauses, 0, lambda: ask((as_tuples(bad), bad)))


class ConclusionTests(OrderedCase):
    def test_small_ones(self):
        self.assertEqual(conclusions(ORDER, CHAIN[0], CHAIN[1]), [])
        self.assertEqual(kinds(conclusions(ORDER, CHAIN[1], no(p(f("X"))))), kinds([(1, 0, no(p("V0")))]))
        self.assertEqual(conclusions(ORDER, yes(p("X"), p("Y")), no(p("X"), p("Y"))),
                         [(0, 0, no(p("V0")) + yes(p("V1"))), (0, 1, no(p("V0")) + yes(p("V1"))), (1, 0, no(p("V0")) + yes(p("V1"))),
                          (1, 1, no(p("V0")) + yes(p("V1")))])
        self.assertEqual(conclusions(ORDER, yes(Q), no(Q)), [(0, 0, [])])
        self.assertEqual(conclusions(ORDER, no(Q), yes(Q)), [])
        self.assertEqual(conclusions(ORDER, yes(p("X")), no(p(f("X")))), [(0, 0, [])])
        self.assertEqual(conclusions(ORDER, yes(p("X")), no(r("X", A))), [])

    def test_greatest_alone(self):
        """p(f(X)) is above p(X), r above p of as much."""
        clause = no(p("X")) + yes(p(f("X")))
        self.assertEqual(conclusions(ORDER, yes(p(A)), clause), [])
        self.assertEqual(conclusions(ORDER, clause, no(p("Y"))), [(1, 0, no(p("V0")))])
        self.assertEqual(conclusions(ORDER, yes(p(A), Q), no(Q)), [])
        self.assertEqual(conclusions(ORDER, yes(p(A), Q), no(p(A))), [(0, 0, yes(Q))])

    def test_indexes_as_they_stand(self):
        """Like literals keep their indexes; all that become like the literal go."""
        clause = yes(p("X"), p("X"))
        self.assertEqual(conclusions(ORDER, clause, no(p(A))), [(0, 0, []), (1, 0, [])])
        self.assertEqual(conclusions(ORDER, yes(p(A)), no(p("X"), p("X"))), [(0, 0, []), (0, 1, [])])
        self.assertEqual(conclusions(ORDER, yes(p("X"), p(A)), no(p("Y"))), [(0, 0, yes(p(A))), (1, 0, yes(p("V0")))])
        self.assertEqual(conclusions(ORDER, yes(r("X", "Y"), r("Y", "X")), no(r("Z", "Z"))), [(0, 0, []), (1, 0, [])])
        self.assertEqual(factors(ORDER, clause), [(0, 1, yes(p("V0"))), (1, 0, yes(p("V0")))])

    def test_factors(self):
        self.assertEqual(kinds(factors(ORDER, yes(p("X"), p("Y")))), kinds([(0, 1, yes(p("V0"))), (1, 0, yes(p("V0")))]))
        self.assertEqual(factors(ORDER, yes(p("X")) + no(Q) + yes(p(f("Y")))), [(0, 2, no(Q) + yes(p(f("V0")))), (2, 0, no(Q) + yes(p(f("V0"))))])
        self.assertEqual(factors(ORDER, no(p("X"), p("Y"))), [])
        # The first literal is greatest, the second one need not be.
        self.assertEqual(factors(ORDER, yes(r("X", "Y"), r("X", f("Z")), r("Z", A))), plain_factors(ORDER, yes(r("X", "Y"), r("X", f("Z")), r("Z", A))))
        self.assertEqual(factors(ORDER, yes(p("X"), p(f("X")))), [])
        self.assertEqual(factors(ORDER, []), [])

    def test_errors(self):
        self.check_order_errors(lambda thing: conclusions(thing, None, None))
        self.check_order_errors(lambda thing: factors(thing, None))
        for bad in self.bad_clauses():
            self.caught(BadClause, lambda thing: conclusions(ORDER, thing, None), bad)
            self.caught(BadClause, lambda thing: conclusions(ORDER, yes(Q), thing), bad)
            self.caught(BadClause, lambda thing: factors(ORDER, thing), bad)

    def test_drawn(self):
        chance = random.Random(21)
        met = [0, 0]
        for _ in range(700):
            one, other = drawn_clause(chance, 3), drawn_clause(chance, 3)
            kept = copy.deepcopy((one, other))
            told = conclusions(ORDER, one, other)
            self.assertEqual(kinds(told), kinds(plain_conclusions(ORDER, one, other)))
            self.assertEqual(kinds(conclusions(ORDER, as_tuples(one), as_lists(other))), kinds(told))
            self.assertEqual(kinds(factors(ORDER, one)), kinds(plain_factors(ORDER, one)))
            self.assertEqual(factors(ORDER, as_lists(one)), factors(ORDER, one))
            self.assertEqual((one, other), kept)
            met[0] += len(told) > 0
            met[1] += len(factors(ORDER, one)) > 0
        self.assertGreater(min(met), 25)


class LoopTests(OrderedCase):
    def test_refuted(self):
        for clauses in (CHAIN + [no(p(f(f("X"))))], [no(p("X"), p("Y")), yes(p("X"), p("Y"))], [[]], [yes(Q), no(Q)], [yes(Q, Q), no(Q, Q)],
                        [yes(p(A), p(B)), no(p("X"))], [yes(r("X", "Y"), r("Y", "X")), no(r("Z", A), r(A, "Z"))]):
            kind, derivation = loop(ORDER, clauses, 60)
            self.assertEqual(kind, "refuted")
            self.assertTrue(is_refutation(clauses, derivation), clauses)
            self.assertEqual(kinds(loop(ORDER, as_lists(clauses), 60)), kinds((kind, derivation)))

    def test_saturated_and_open(self):
        told = loop(ORDER, CHAIN, 60)
        self.assertEqual(kinds(told), kinds(("saturated", [no(p("V0")) + yes(p(f("V0"))), yes(p(A))])))
        self.assertEqual(loop(ORDER, [], 0), ("saturated", []))
        self.assertEqual(loop(ORDER, [yes(Q) + no(Q)], 5), ("saturated", []))
        self.assertEqual(loop(ORDER, [yes(Q)], 0), ("open", []))
        self.assertEqual(loop(ORDER, [yes(Q)], 1), ("saturated", [yes(Q)]))
        self.assertEqual(loop(ORDER, [yes(Q), no(Q)], 2)[0], "open")
        self.assertEqual(loop(ORDER, [yes(Q), no(Q)], 3)[0], "refuted")
        self.assertEqual(loop(ORDER, [yes(Q), yes(p(A)), yes(Q)], 1), ("open", [yes(Q)]))
        self.assertEqual(loop(ORDER, [yes(Q), yes(Q)], 10 ** 9), ("saturated", [yes(Q)]))
        # What comes of two atoms of like weight goes on for ever.
        endless = [yes(r("X", f("X"))), no(r("X", "Y"), r("Y", "Z")) + yes(r("X", "Z"))]
        self.assertEqual(loop(ORDER, endless, 6)[0], "open")

    def test_what_is_gone(self):
        """What is laid one to one goes, whether it is kept or comes; not p(X) or not p(Y) stays beside not p(Z) or q."""
        self.assertEqual(loop(ORDER, [yes(p(A), Q), yes(p("X"))], 9), ("saturated", [yes(p("V0"))]))
        self.assertEqual(loop(ORDER, [yes(p(f(f("X")))), yes(p(f(f("X"))), r("X", "X"))], 9)[1], [yes(p(f(f("V0"))))])
        heavy = [yes(p(f(f(A)))), yes(r("X", "Y"), Q), no(r("X", "Y"))]
        self.assertEqual(loop(ORDER, heavy, 9)[1], sorted([yes(Q), no(r("V0", "V1")), yes(p(f(f(A))))], key=clause_text))
        both = [no(p("X"), p("Y")), no(p("Z"), Q)]
        self.assertEqual(loop(ORDER, both, 9), ("saturated", [no(p("V0"), p("V1")), no(p("V0"), Q)]))

    def test_drawn(self):
        chance = random.Random(22)
        met = {}
        for _ in range(160):
            clauses = [drawn_clause(chance, 3) for _ in range(chance.randrange(1, 6))]
            kept = copy.deepcopy(clauses)
            rounds = chance.choice([3, 6, 12])
            told = loop(ORDER, clauses, rounds)
            plain = plain_loop(ORDER, clauses, rounds)
            self.assertEqual(clauses, kept)
            met[told[0]] = met.get(told[0], 0) + 1
            if told[0] == "refuted":
                self.assertEqual(plain, "refuted")
                self.assertTrue(is_refutation(clauses, told[1]))
                for row in told[1]:
                    self.assertTrue(all(list(words) == sorted(words) for words in row[2]))
            else:
                self.assertEqual(kinds(told), kinds(plain))
                self.assertEqual(kinds(loop(ORDER, as_lists(clauses), rounds)), kinds(told))
            if told[0] == "saturated":
                self.assertIsNone(saturation_fault(ORDER, told[1]))
                self.assertIsNone(fails_at(ORDER, ARITIES, told[1], 5))
        self.assertGreater(min(met.get(word, 0) for word in ("refuted", "saturated", "open")), 10)

    def test_what_is_kept_is_worth_as_much(self):
        """In each world in which all that is kept in the end holds all clauses hold, and the other way about."""
        chance = random.Random(27)
        met = [0, 0]
        for _ in range(400):
            clauses = [drawn_clause(chance, 3) for _ in range(chance.randrange(1, 5))]
            told = loop(ORDER, clauses, 12)
            if told[0] == "refuted":
                continue
            for _ in range(6):
                world = some_world(chance, NAMES, chance.randrange(1, 3))
                given = all(false_giving(world, clause) is None for clause in clauses)
                kept = all(false_giving(world, clause) is None for clause in told[1])
                self.assertTrue(kept or not given)
                self.assertTrue(given or not kept or told[0] == "open")
                met[given] += 1
        self.assertGreater(min(met), 50)

    def test_saturation_fault(self):
        self.assertIsNone(saturation_fault(ORDER, []))
        self.assertIsNone(saturation_fault(ORDER, [[]]))
        self.assertEqual(kinds(saturation_fault(ORDER, [yes(Q), no(Q)])), kinds((0, 1, 0, 0)))
        self.assertIsNone(saturation_fault(ORDER, [yes(Q), no(Q), []]))
        self.assertEqual(saturation_fault(ORDER, [no(Q), yes(p("X"), p("Y")), yes(Q)]), (1, None, 0, 1))
        self.assertEqual(saturation_fault(ORDER, [no(Q), yes(Q, Q), yes(p("X"), p("Y"))]), (1, 0, 0, 0))
        self.assertEqual(saturation_fault(ORDER, [no(p("X"), r("X", "Y")), yes(r("Z", "Z"), r("Z", f("Z")))]), (1, 0, 1, 1))
        # One to one: a clause is not laid in a shorter one.
        both = [yes(p("X"), p("Y"))]
        self.assertEqual(saturation_fault(ORDER, both), (0, None, 0, 1))
        self.assertIsNone(saturation_fault(ORDER, both + [yes(p("Z"))]))
        # Like literals count once: what comes of p(X) or p(X) has it laid in it.
        self.assertIsNone(saturation_fault(ORDER, [yes(p("X"), p("X"))]))
        # A clause with itself.
        itself = [no(r("X", "Y"), r("Y", "Z")) + yes(r("X", "Z"))]
        self.assertEqual(saturation_fault(ORDER, itself), (0, 0, 2, 0))

    def test_saturation_drawn(self):
        chance = random.Random(23)
        met = 0
        for _ in range(200):
            clauses = [drawn_clause(chance, 2) for _ in range(3)]
            plain = None
            for at, one in enumerate(clauses):
                rows = [(at, None) + row for row in factors(ORDER, one)]
                rows += [(at, behind) + row for behind, other in enumerate(clauses) for row in conclusions(ORDER, one, other)]
                for row in rows:
                    if plain is None and not is_trivial(row[4]) and all(laid(clause, row[4], True) is None for clause in clauses):
                        plain = row[:4]
            self.assertEqual(saturation_fault(ORDER, clauses), plain)
            self.assertEqual(saturation_fault(ORDER, as_lists(clauses)), plain)
            met += plain is not None
        self.assertGreater(met, 12)

    def test_errors(self):
        self.check_order_errors(lambda thing: loop(thing, None, None))
        self.check_order_errors(lambda thing: saturation_fault(thing, None))
        self.check_bad_clauses(lambda thing: loop(ORDER, thing, None))
        self.check_bad_clauses(lambda thing: saturation_fault(ORDER, thing))
        for bad in (None, -1, True, "1", []):
            self.caught(BadNumber, lambda thing: loop(ORDER, CHAIN, thing), bad)


def light_words(arities, order, most):
    """All ground words that weigh at most so much, the plain way."""
    weights = dict(order.rows())

    def weight(word):
        return weights[word[0]] + sum(weight(part) for part in word[1:])
    told = [(name,) for name, arity in arities if arity == 0 and weights[name] <= most]
    while True:
        more = [(name,) + row for name, arity in arities if arity for row in itertools.product(told, repeat=arity)]
        more = [word for word in more if word not in told and weight(word) <= most]
        if not more:
            return sorted(told, key=written)
        told.extend(sorted(set(more)))


def plain_instances(order, arities, clauses, most):
    """The triples (index, words, literals), as [73] orders them, of instances whose atoms weigh at most so much."""
    told = []
    words = light_words(arities, order, most)
    for index, clause in enumerate(clauses):
        once = [literal for at, literal in enumerate(clause) if literal not in clause[:at]]
        letters = clause_letters(clause)
        for row in itertools.product(words, repeat=len(letters)):
            literals = moved(once, dict(zip(letters, row)))
            if all(clause_weight(order, [literal]) <= most for literal in literals):
                told.append((index, dict(zip(letters, row)), literals))
    return told


def plain_made(order, rows):
    """The atoms that these instances make true, from below, with the pairs that make each."""
    atoms = []
    for _, _, literals in rows:
        atoms.extend([atom for _, atom in literals if atom not in atoms])
    told = {}
    while atoms:
        least = [atom for atom in atoms if all(compare(order, atom, other) != "above" for other in atoms)][0]
        atoms.remove(least)
        makers = []
        for index, words, literals in rows:
            others = [literal for literal in literals if literal != (True, least)]
            if len(others) == len(literals) - 1 and all(compare(order, least, atom) == "above" for _, atom in others):
                if not any((written(atom) in told) == is_so for is_so, atom in others):
                    makers.append((index, words))
        if makers:
            told[written(least)] = makers
    return told


class CandidateTests(OrderedCase):
    def test_maker(self):
        self.assertEqual(kinds(maker(ORDER, ARITIES, CHAIN, p(A))), kinds((0, {})))
        self.assertEqual(kinds(maker(ORDER, ARITIES, CHAIN, p(f(f(A))))), kinds((1, {"X": f(A)})))
        self.assertIsNone(maker(ORDER, ARITIES, CHAIN, p(f(B))))
        self.assertEqual(kinds(maker(ORDER, ARITIES, [yes(r("Y", "X"))], r(A, B))), kinds((0, {"X": B, "Y": A})))
        self.assertEqual(maker(ORDER, ARITIES, [yes(r("X", "X")) + no(p("Z"), p("Y")), yes(p(f(A)))], r(f(A), f(A)))[1]["X"], f(A))
        self.assertIsNone(maker(ORDER, ARITIES, CHAIN, Q))
        self.assertIsNone(maker(ORDER, ARITIES, [], Q))
        # Literals that become alike stay two: p(a) would stand twice; the same literal again means nothing.
        self.assertIsNone(maker(ORDER, ARITIES, [yes(p("X"), p("Y"))], p(A)))
        self.assertIn(maker(ORDER, ARITIES, [yes(p("X"), p("Y"))], p(B)), [(0, {"X": B, "Y": A}), (0, {"X": A, "Y": B})])
        self.assertEqual(maker(ORDER, ARITIES, [yes(p("X"), p("X"))], p(A)), (0, {"X": A}))
        # Another literal holds already, or is above.
        self.assertIsNone(maker(ORDER, ARITIES, [yes(Q), yes(Q, p(A))], p(A)))
        self.assertEqual(maker(ORDER, ARITIES, [yes(Q), no(Q) + yes(p(A))], p(A)), (1, {}))
        self.assertIsNone(maker(ORDER, ARITIES, [no(Q) + yes(p(A))], p(A)))
        self.assertIsNone(maker(ORDER, ARITIES, [yes(p(A), p(f(A)))], p(A)))
        self.assertEqual(maker(ORDER, ARITIES, [yes(p(A), p(f(A)))], p(f(A))), (0, {}))
        # Words that are not made of the functions are put for no variable.
        self.assertIsNone(maker(ORDER, [("a", 0)], [yes(p("X"))], p(f(A))))
        self.assertIsNone(maker(ORDER, [("a", 0)], [yes(p("X"))], p(B)))
        self.assertEqual(maker(ORDER, as_lists(ARITIES), as_lists([yes(p("X"))]), as_lists(p(f(B)))), (0, {"X": f(B)}))
        # Variables that do not stand in the atom.
        self.assertEqual(maker(ORDER, ARITIES, [yes(p("X")) + no(r("Y", "Y")), yes(Q)], p(A)), None)
        self.assertEqual(maker(ORDER, ARITIES, [yes(r("X", "X")) + no(p("Y")), yes(p(B))], r(A, A)), (0, {"X": A, "Y": B}))

    def test_long_rows_of_makers(self):
        word = A
        for _ in range(80):
            word = f(word)
        self.assertEqual(maker(ORDER, ARITIES, CHAIN, p(f(word))), (1, {"X": word}))
        self.assertIsNone(fails_at(ORDER, ARITIES, CHAIN, 40))

    def test_fails_at(self):
        self.assertIsNone(fails_at(ORDER, ARITIES, [], 9))
        self.assertEqual(kinds(fails_at(ORDER, ARITIES, [yes(Q), []], 0)), kinds((1, {})))
        self.assertIsNone(fails_at(ORDER, ARITIES, [no(Q), yes(Q)], 0))
        self.assertEqual(fails_at(ORDER, ARITIES, [no(Q), yes(Q)], 1), (0, {}))
        clauses = [yes(p("X")), no(r("X", "Y")) + no(p("Y")), yes(r("X", f("X")))]
        self.assertEqual(kinds(fails_at(ORDER, ARITIES, clauses, 4)), kinds((1, {"X": A, "Y": f(A)})))
        self.assertIsNone(fails_at(ORDER, ARITIES, clauses, 3))
        # Variables ascending, wherever they stand; each of two may be the heavier one.
        self.assertEqual(kinds(fails_at(ORDER, ARITIES, [no(r("Y", "X")), yes(r("Z", f(A)))], 4)), kinds((0, {"X": f(A), "Y": A})))
        self.assertEqual(fails_at(ORDER, ARITIES, [no(r("X", "Y")), yes(r(f(f(A)), A))], 5), (0, {"X": f(f(A)), "Y": A}))
        self.assertIsNone(fails_at(ORDER, ARITIES, [no(r("X", "Y")), yes(r(f(f(A)), A))], 4))
        self.assertEqual(fails_at(ORDER, ARITIES, [no(r("X", "Y")), yes(r(A, f(f(A))))], 5), (0, {"X": A, "Y": f(f(A))}))
        self.assertEqual(fails_at(ORDER, ARITIES, [no(r("Y", "X")), yes(r("Y", B)), yes(r(B, "Y"))], 3), (0, {"X": A, "Y": B}))
        # By the texts of words: f(b) is ahead of no letter behind it, g ahead of none.
        more = [("b", 0), ("f", 1), ("a", 0), ("g", 1)]
        self.assertEqual(fails_at(ORDER, more, [no(p("X")), yes(p(g("X"))), yes(p(f(B)))], 9)[1], {"X": f(B)})
        self.assertEqual(fails_at(ORDER, more, [no(p("X")), yes(p(g("X"))), yes(p(f(g(B))))], 3)[1], {"X": g(A)})
        self.assertEqual(fails_at(ORDER, [("a", 0), ("b", 0)], [no(r("X", "Y")), yes(r(B, "Y"))], 10 ** 9), (0, {"X": B, "Y": A}))

    def test_light_words(self):
        """All words of at most a weight, once, by their texts, of functions with several places, too."""
        chance = random.Random(26)
        for _ in range(40):
            arities = [("a", 0), ("b", 0)][:chance.randrange(1, 3)] + chance.choice([[], [("f", 1)], [("g", 2)], [("k", 3)], [("j", 1), ("g", 2)]])
            order = Order([(name, chance.choice([1, 1, 2, 3])) for name, _ in arities])
            light = LightWords(order, chance.sample(arities, len(arities)))
            for most in chance.sample(range(7), 4):
                self.assertEqual(light.words_to(most), light_words(arities, order, most))

    def test_heavy_names(self):
        """Weights of nine figures are no work."""
        heavy = Order([("a", 10 ** 8), ("b", 3), ("f", 10 ** 8), ("p", 10 ** 8)])
        self.assertEqual(fails_at(heavy, ARITIES, [no(p("X")), yes(p(f(A)))], 4 * 10 ** 8), (0, {"X": f(A)}))
        self.assertEqual(maker(heavy, ARITIES, [yes(p("X"))], p(f(f(B)))), (0, {"X": f(f(B))}))

    def test_against_the_plain_way(self):
        chance = random.Random(24)
        met = [0, 0, 0]
        for _ in range(120):
            clauses = [drawn_clause(chance, 3) for _ in range(chance.randrange(1, 5))]
            most = chance.choice([3, 4])
            order = Order([(name, chance.choice([1, 1, 2])) for name in chance.sample(["a", "b", "f", "p", "q", "r"], 6)])
            rows = plain_instances(order, ARITIES, clauses, most)
            if len(rows) > 300:
                continue
            made = plain_made(order, rows)
            told = fails_at(order, ARITIES, clauses, most)
            fails = [(index, words) for index, words, literals in rows if not any((written(atom) in made) == is_so for is_so, atom in literals)]
            self.assertEqual(kinds(told), kinds(fails[0] if fails else None), (order.rows(), clauses, most))
            met[2] += told is not None
            atoms = {written(atom): atom for _, _, literals in rows for _, atom in literals}
            for text in sorted(atoms):
                found = maker(order, ARITIES[::-1], clauses, atoms[text])
                met[found is None] += 1
                self.assertTrue(found in made[text] if text in made else found is None, (clauses, text, found))
        self.assertGreater(min(met), 30)

    def test_arities(self):
        for ask in (lambda thing: maker(ORDER, thing, None, None), lambda thing: fails_at(ORDER, thing, None, None)):
            for bad in (None, 5, {}, "", ("a",)):
                self.caught_at(BadArities, 0, lambda: ask(bad))
            for bad in (None, (), ("f",), ("f", 7), ("f", -1), ("f", True), ("f", "1"), ("h", 0), ("a", 0), ("f", 1, 1), (None, 0), ("F", 0), ("not", 0), ("=", 0)):
                self.caught_at(BadArities, 1, lambda: ask([("a", 0), bad, None]))
            self.caught_at(BadArities, 0, lambda: ask([]))
            self.caught_at(BadArities, 2, lambda: ask([("f", 1), ("g", 2)]))
            self.caught_at(BadArities, 0, lambda: ask([("c", 0), None]))

    def test_errors(self):
        self.check_order_errors(lambda thing: maker(thing, None, None, None))
        self.check_order_errors(lambda thing: fails_at(thing, None, None, None))
        self.check_bad_clauses(lambda thing: maker(ORDER, ARITIES, thing, None))
        self.check_bad_clauses(lambda thing: fails_at(ORDER, ARITIES, thing, None))
        for bad in (None, 5, "p", "X", (), ("p",  "X"), p(f("X")), equal(A, A), equal(A, "X"), ("s",), p(("c",)), [("p", A)], (True, Q), ("not", Q), p(None), p(f(("h",)))):
            self.caught(NotGround, lambda thing: maker(ORDER, ARITIES, CHAIN, thing), bad)
        for bad in (None, -1, True, "1", []):
            self.caught(BadNumber, lambda thing: fails_at(ORDER, ARITIES, CHAIN, thing), bad)
        for bad in THINGS:
            if bad not in (("q",), ("p",), ["p", "X"]):
                self.caught(NotGround, lambda thing: maker(ORDER, ARITIES, CHAIN, thing), bad)

    def test_saturated_clauses_hold(self):
        """Of saturated clauses without the empty one no instance fails."""
        chance = random.Random(25)
        met = 0
        for _ in range(250):
            clauses = [drawn_clause(chance, 2) for _ in range(3)]
            if [] not in clauses and saturation_fault(ORDER, clauses) is None:
                met += 1
                self.assertIsNone(fails_at(ORDER, ARITIES, clauses, 5))
        self.assertGreater(met, 40)

    def test_nothing_is_changed(self):
        clauses, arities = as_lists([yes(p("X"), r("X", "Y"))]), as_lists(ARITIES)
        kept = copy.deepcopy((clauses, arities))
        first = maker(ORDER, arities, clauses, r(A, A))
        self.assertEqual((clauses, arities), kept)
        self.assertEqual(first, (0, {"X": A, "Y": A}))
        self.assertEqual(maker(ORDER, arities, clauses, r(A, A)), first)
        one, other = maker(ORDER, arities, [yes(p("X"))], p(A)), maker(ORDER, arities, [yes(p("X"))], p(A))
        self.assertIsNot(one[1], other[1])


class LayingApartTests(OrderedCase):
    def test_names_apart(self):
        """A clause with itself: the other one's names are apart."""
        clause = no(p("X")) + yes(p(f("X")))
        self.assertEqual(conclusions(ORDER, yes(r("X", "Y")), no(r("Y", f("X")))), [(0, 0, [])])
        self.assertEqual(conclusions(ORDER, yes(r("X", f("X"))), no(r("X", "X")) + no(p("X"))), [])
        self.assertEqual(named_apart(clause, ["X"]), no(p("V0")) + yes(p(f("V0"))))


if __name__ == "__main__":
    unittest.main()
