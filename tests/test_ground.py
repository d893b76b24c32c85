"""Ground words, instances, classes, chains, tables and levels: [52] to [58], [60]."""

import copy
import itertools
import random
import unittest

from eithershown.checking import derivation_fault, is_refutation
from eithershown.classing import chain, checked_nodes, classes, is_chain
from eithershown.errors import (BadBound, BadClauses, BadDepth, BadEquations, BadSymbols, BadWords, Crowded, HasVariables, NoClash,
                                NoWord)
from eithershown.groundwords import count_words, symbols_of, words_at
from eithershown.instancing import count_instances, instances
from eithershown.levels import is_needed, least_depth, level, needed
from eithershown.puts import put
from eithershown.shortchains import shortest_chain
from eithershown.splitting import ground_answer, table_fault
from eithershown.steps import instance_of
from eithershown.words import depth, places, word_at, word_put
from eithershown.writing import written
from tests.making import THINGS, as_lists, as_tuples, kinds

A, B, C = ("a",), ("b",), ("c",)
Q = ("q",)
EXAMPLE = [[(True, ("p", A))], [(False, ("p", "X1")), (True, ("p", ("f", "X1")))], [(False, ("p", ("f", ("f", A))))]]


def f(*words):
    return ("f",) + words


def g(*words):
    return ("g",) + words


def p(word):
    return ("p", word)


def equal(one, other):
    return ("=", one, other)


def yes(*atoms):
    return [(True, atom) for atom in atoms]


def no(*atoms):
    return [(False, atom) for atom in atoms]


def flat(word):
    return [word_at(word, place) for place in places(word)]


def all_words(clauses):
    return sorted({part for clause in clauses for _, atom in clause for word in atom[1:] for part in flat(word)}, key=written)


def all_atoms(clauses):
    return sorted({atom for clause in clauses for _, atom in clause}, key=written)


class Case(unittest.TestCase):
    def caught(self, error, ask, thing):
        with self.assertRaises(error) as caught:
            ask(thing)
        self.assertIs(caught.exception.thing, thing)

    def caught_at(self, error, index, ask):
        with self.assertRaises(error) as caught:
            ask()
        self.assertEqual(caught.exception.index, index)

    def check_clause_errors(self, ask):
        """For all functions with clauses of section 8."""
        for thing in (None, 5, "", {}, True):
            self.caught_at(BadClauses, 0, lambda: ask(thing))
        good = yes(p(f(A)))
        for bad in (None, 5, [("p", A)], [(1, Q)], yes(p(f(A, A))), yes(("p", A, A)), yes(("p",)), yes(("f", A)), yes(p(("p", A))), yes(p(("p",))),
                    yes(("a",)), yes(equal(("a", B), B)), yes(("f",)), yes(("r", ("r",)))):
            self.caught_at(BadClauses, 1, lambda: ask([good, bad, None]))
        for bad in (yes(p(f(A)), ("p", A, A)), no(equal(f(A), f(A, A))), yes(p(("p", A)))):
            self.caught_at(BadClauses, 0, lambda: ask([bad, None]))


class WordTests(Case):
    def test_symbols_of(self):
        self.assertEqual(kinds(symbols_of([yes(p(f("X", B))), no(equal(A, g("Y")))])), kinds([("a", 0), ("b", 0), ("f", 2), ("g", 1)]))
        self.assertEqual(symbols_of([]), [("k1", 0)])
        self.assertEqual(symbols_of([[], yes(p(f("X")))]), [("f", 1), ("k1", 0)])
        self.assertEqual(symbols_of(as_lists([yes(("k1",), ("p", ("k3", "X"))), no(("k2", "X"))])), [("k3", 1), ("k4", 0)])
        self.assertEqual(symbols_of([yes(p(f(("k1",))))]), [("f", 1), ("k1", 0)])
        self.check_clause_errors(symbols_of)

    def test_words_at(self):
        symbols = [("b", 0), ("f", 1), ("a", 0)]
        self.assertEqual(kinds(words_at(symbols, 0)), kinds([A, B]))
        self.assertEqual(words_at(symbols, 2), [A, B, f(A), f(B), f(f(A)), f(f(B))])
        self.assertEqual(words_at([("f", 1)], 3), [])
        self.assertEqual(words_at([], 0), [])
        self.assertEqual(words_at([("a", 0)], 10 ** 9), [A])
        self.assertEqual(words_at([["g", 2], ["a", 0], ["aa", 0]], 1), [A, ("aa",), g(A, A), g(A, ("aa",)), g(("aa",), A), g(("aa",), ("aa",))])

    def test_against_the_plain_way(self):
        chance = random.Random(1)
        for _ in range(60):
            symbols = [(name, chance.randrange(3)) for name in chance.sample(["a", "ab", "b", "f", "g", "fa"], chance.randrange(4))]
            for deep in range(3):
                if count_words(symbols, deep) < 800:
                    told = {()} - {()}
                    for _ in range(deep + 1):
                        told = {(name,) + row for name, arity in symbols for row in itertools.product(sorted(told), repeat=arity)}
                    plain = sorted(told, key=lambda word: (depth(word), written(word)))
                    self.assertEqual(words_at(as_lists(symbols), deep), plain)
                    self.assertEqual(count_words(symbols, deep), len(plain))

    def test_great_counts(self):
        self.assertEqual(count_words([("a", 0), ("b", 0), ("g", 2)], 4), (2 + (2 + (2 + (2 + 4) ** 2) ** 2) ** 2))
        self.assertEqual(count_words([("a", 0), ("f", 1)], 9), 10)
        self.assertEqual(count_words([("a", 0)], 10 ** 9), 1)
        self.assertEqual(count_words([("f", 6)], 10 ** 9), 0)

    def test_errors(self):
        for ask in (words_at, count_words):
            for bad in (None, 5, "a", ("a",), ("a", 7), ("a", -1), ("a", True), ("A", 0), ("not", 0), ("b", 0), ("a", 0, 0), ("=", 2)):
                self.caught_at(BadSymbols, 1, lambda: ask([("b", 0), bad, None], None))
            for bad in (None, 5, "ab", {}, {"a": 0}):
                self.caught_at(BadSymbols, 0, lambda: ask(bad, None))
            for thing in (None, -1, True, "0", [], ()):
                self.caught(BadDepth, lambda bad: ask([("a", 0)], bad), thing)


class InstanceTests(Case):
    def test_small(self):
        told = instances(EXAMPLE, 0, 3)
        self.assertEqual(kinds(told), kinds([(0, {}), (1, {"X1": A}), (2, {})]))
        clauses = [yes(("r", "Z", "Y")), yes(p(B), p(A))]
        self.assertEqual(instances(as_lists(clauses), 0, 5), [(0, {"Y": one, "Z": two}) for one in (A, B) for two in (A, B)] + [(1, {})])
        self.assertEqual(list(instances(clauses, 0, 5)[0][1]), ["Y", "Z"])

    def test_no_constant(self):
        self.assertEqual(instances([], 0, 1), [(0, {})])
        clauses = [yes(p("X")), no(("k1", f("Y")))]
        self.assertEqual(instances(clauses, 0, 3), [(0, {"X": ("k2",)}), (1, {"Y": ("k2",)}), (2, {})])
        self.assertEqual(count_instances(clauses, 1), 5)

    def test_against_the_plain_way(self):
        chance = random.Random(2)
        for _ in range(60):
            clauses = [drawn_clause(chance, ("X", "Y", "Z")) for _ in range(3)]
            deep = chance.randrange(2)
            words = words_at(symbols_of(clauses), deep)
            plain = []
            for index, clause in enumerate(clauses):
                names = sorted({part for _, atom in clause for word in atom[1:] for part in flat(word) if isinstance(part, str)})
                plain.extend([(index, dict(zip(names, row))) for row in itertools.product(words, repeat=len(names))])
            if ("k1", 0) in symbols_of(clauses):
                plain.append((3, {}))
            self.assertEqual(count_instances(as_tuples(clauses), deep), len(plain))
            self.assertEqual(instances(clauses, deep, len(plain)), plain)
            with self.assertRaises(Crowded) as caught:
                instances(clauses, deep, len(plain) - 1)
            self.assertEqual(caught.exception.many, len(plain))

    def test_crowded_ahead_of_all(self):
        clauses = [yes(("r", "X", "Y", "Z", g(g(A, B), "X")))]
        for ask in (instances, level, least_depth_at, needed, lambda *row: is_needed(*row, None)):
            with self.assertRaises(Crowded) as caught:
                ask(clauses, 3, 500)
            self.assertEqual(caught.exception.many, count_words([("a", 0), ("b", 0), ("g", 2)], 3) ** 3)
        self.assertEqual(count_instances(clauses, 3), caught.exception.many)
        ground = [yes(p(g(A, B))), no(p(g(A, B)))]
        self.assertEqual(instances(ground, 9, 2), [(0, {}), (1, {})])
        self.assertEqual(level(ground, 9, 2)[0], "clash")
        self.assertEqual(count_instances([yes(p("X")), no(p(g(A, B)))], 5), count_words([("a", 0), ("b", 0), ("g", 2)], 5) + 1)

    def test_errors_in_order(self):
        self.check_clause_errors(lambda bad: count_instances(bad, None))
        for thing in (None, -1, True, "0", []):
            self.caught(BadDepth, lambda bad: count_instances(EXAMPLE, bad), thing)
        for ask in (instances, level, needed, least_depth, lambda *row: is_needed(*row, None)):
            self.check_clause_errors(lambda bad: ask(bad, None, None))
            for thing in (None, -1, True, "0", []):
                self.caught(BadDepth, lambda bad: ask(EXAMPLE, bad, None), thing)
                self.caught(BadBound, lambda bad: ask(EXAMPLE, 1, bad), thing)


def least_depth_at(clauses, deep, bound):
    """What level raises at the depth itself."""
    return level(clauses, deep, bound)


def drawn_clause(chance, variables):
    """A clause by one set of names."""
    def word(deep):
        if variables and chance.random() < 0.4:
            return chance.choice(variables)
        return chance.choice([A, B, f(word(deep - 1))]) if deep else chance.choice([A, B])

    told = []
    for _ in range(1 + chance.randrange(3)):
        atom = chance.choice([("p", word(1)), ("r", word(1), word(0)), Q, equal(word(1), word(1)), equal(word(1), word(0))])
        told.append((chance.random() < 0.5, atom))
    return told


def drawn_words(chance, many):
    told = [A, B, C][:1 + chance.randrange(3)]
    while len(told) < many:
        word = chance.choice([f(chance.choice(told)), g(chance.choice(told), chance.choice(told))])
        if word not in told:
            told.append(word)
    chance.shuffle(told)
    return told


def plain_classes(words, equations):
    home = {word: {word} for word in words}

    def join(one, other):
        if home[one] is not home[other]:
            lot = home[one] | home[other]
            for word in lot:
                home[word] = lot
            return True
        return False

    for one, other in equations:
        join(one, other)
    changed = True
    while changed:
        changed = False
        for one, other in itertools.combinations(words, 2):
            if one[0] == other[0] and len(one) == len(other) and all(home[x] is home[y] for x, y in zip(one[1:], other[1:])):
                changed = join(one, other) or changed
    lots = {tuple(sorted(lot, key=written)) for lot in home.values()}
    return [list(lot) for lot in sorted(lots, key=lambda lot: written(lot[0]))]


class ClassTests(Case):
    WORDS = [A, B, C, f(A), f(C)]
    EQUATIONS = [(f(A), B), (A, C)]

    def test_example(self):
        self.assertEqual(kinds(chain(self.WORDS, self.EQUATIONS, f(C), B)), kinds([(1, False, [0]), (0, True, [])]))
        self.assertEqual(kinds(classes(self.WORDS, self.EQUATIONS)), kinds([[A, C], [B, f(A), f(C)]]))
        self.assertEqual(kinds(classes(as_lists(self.WORDS), as_lists(self.EQUATIONS))), kinds([[A, C], [B, f(A), f(C)]]))
        self.assertEqual(classes([], []), [])
        self.assertEqual(chain(self.WORDS, [], A, A), [])
        self.assertIsNone(chain(self.WORDS, [], A, B))

    def test_against_a_plain_closure(self):
        chance = random.Random(3)
        joined = 0
        for _ in range(60):
            words = drawn_words(chance, 12)
            equations = [(chance.choice(words), chance.choice(words)) for _ in range(chance.randrange(7))]
            told = classes(words, as_lists(equations))
            self.assertEqual(told, plain_classes(words, equations))
            for one, other in [chance.sample(words, 2) for _ in range(12)]:
                rows = chain(as_lists(words), equations, one, as_lists(other))
                self.assertEqual(rows, chain(words, as_tuples(equations), as_lists(one), other))
                are_one = any(one in lot and other in lot for lot in told)
                self.assertEqual(rows is not None, are_one)
                if are_one:
                    self.assertEqual(self.behind(equations, one, rows), other)
                    self.assertIs(is_chain(as_lists(equations), one, other, as_lists(rows)), True)
                    self.assertTrue(is_chain(equations, one, other, as_tuples(rows)))
                    joined += len(rows) > 3
        self.assertGreater(joined, 20)

    def behind(self, equations, word, rows):
        for index, way, place in rows:
            one, other = equations[index] if way else equations[index][::-1]
            self.assertEqual(word_at(word, place), one)
            word = word_put(word, place, other)
        return word

    def test_is_chain(self):
        rows = [(1, False, [0]), (0, True, [])]
        self.assertTrue(is_chain(self.EQUATIONS, f(C), B, rows))
        self.assertTrue(is_chain(self.EQUATIONS, f(C), B, rows + [(0, False, []), (0, True, [])]))
        self.assertTrue(is_chain([], A, ["a"], []))
        self.assertFalse(is_chain([], A, B, []))
        for thing in THINGS:
            self.assertFalse(is_chain(self.EQUATIONS, f(C), B, thing))
            self.assertFalse(is_chain(self.EQUATIONS, f(C), B, rows + [thing]))
            for at in range(2):
                for part in range(3):
                    if (thing, at, part) not in ((0, 1, 0), ([], 1, 2), ((), 1, 2), (True, 1, 1), (False, 0, 1), (1, 0, 0)) or \
                            (part == 0 and isinstance(thing, bool)) or (part == 1 and not isinstance(thing, bool)):
                        row = rows[at][:part] + (thing,) + rows[at][part + 1:]
                        self.assertFalse(is_chain(self.EQUATIONS, f(C), B, rows[:at] + [row] + rows[at + 1:]), row)
        for wrong in ([rows[0]], [rows[1]], rows[::-1], [(1, True, [0]), rows[1]], [(0, False, [0]), rows[1]], [(1, False, [1]), rows[1]],
                      [(1, False, [0, 0]), rows[1]], [(2, False, [0]), rows[1]], [rows[0], (0, True, [0])], [rows[0], (0, False, [])],
                      [(1, False, [-1]), rows[1]], [(1, False), rows[1]], [(1, 0, [0]), rows[1]], [rows[0], (0, True, 0)]):
            self.assertFalse(is_chain(self.EQUATIONS, f(C), B, wrong), wrong)
        self.assertFalse(is_chain(self.EQUATIONS, f(C), C, rows))
        self.assertTrue(is_chain([(A, B)], g(f(A), A), g(f(B), A), [(0, True, (0, 0))]))

    def test_errors_in_order(self):
        for ask in (classes, lambda words, equations: chain(words, equations, None, None)):
            for thing in (None, 5, "a", {}):
                self.caught_at(BadWords, 0, lambda: ask(thing, None))
            for bad in (None, "X", (), ["a"], ("a",), f("X"), f(B), f(f(f(A))), ("not",), "a", equal(A, A)):
                self.caught_at(BadWords, 2, lambda: ask([f(A), A, bad, None], None))
            self.caught_at(BadWords, 0, lambda: ask([f(A)], None))
            self.caught_at(BadWords, 0, lambda: ask([f(f(A)), f(A)], None))
            self.caught_at(BadWords, 1, lambda: ask([B, g(B, f(f(A))), f(f(A)), f(A)], None))
            for thing in (None, 5, "a", {}):
                self.caught_at(BadEquations, 0, lambda: ask(self.WORDS, thing))
            for bad in (None, A, (A,), (A, B, C), (A, f(B)), ("X", A), (A, None)):
                self.caught_at(BadEquations, 1, lambda: ask(self.WORDS, [(A, B), bad, None]))
        for thing in (None, "a", "X", f(B), f("X"), 5, equal(A, A)):
            self.caught(NoWord, lambda bad: chain(self.WORDS, [], bad, None), thing)
            self.caught(NoWord, lambda bad: chain(self.WORDS, [], A, bad), thing)
        for thing in (None, 5, "a", {}):
            self.caught_at(BadEquations, 0, lambda: is_chain(thing, None, None, None))
        for bad in (None, A, (A,), (A, B, C), ("X", A), (A, f("X")), (A, None), (A, equal(A, A))):
            self.caught_at(BadEquations, 1, lambda: is_chain([(A, f(B)), bad, None], None, None, None))
        for thing in (None, "a", "X", f("X"), 5):
            self.caught(NoWord, lambda bad: is_chain([], bad, None, []), thing)
            self.caught(NoWord, lambda bad: is_chain([], A, bad, []), thing)

    def test_long_chains(self):
        def tower(many):
            word = A
            for _ in range(many):
                word = f(word)
            return word

        words = [tower(many) for many in range(90)]
        equations = [(tower(89), A), (tower(55), A)]
        self.assertEqual(classes(words, equations), [sorted(words, key=written)])
        rows = chain(words, equations, f(A), A)
        self.assertTrue(is_chain(equations, f(A), A, rows))
        self.assertLess(len(rows), 1000)
        many = [(f"c{at}",) for at in range(200)]
        ring = [(many[at], many[at + 1]) for at in range(199)]
        rows = chain(many, ring, many[0], many[199])
        self.assertEqual(rows, [(at, True, []) for at in range(199)])
        self.assertEqual(len(chain(many, ring + [(many[199], many[0])], many[0], many[150])), 50)

    def test_the_shortest_chains(self):
        """A ring within a ring: by what is joined first chains would grow with each depth."""
        chance = random.Random(8)
        for _ in range(25):
            words = drawn_words(chance, 14)
            equations = [(chance.choice(words), chance.choice(words)) for _ in range(6)]
            nodes, closing = checked_nodes(words, equations)
            for one, other in chance.sample(list(itertools.combinations(range(14), 2)), 4):
                if closing.are_together(one, other):
                    rows = shortest_chain(closing, one, other)
                    self.assertEqual(self.behind(equations, words[one], rows), words[other])
                    self.assertLessEqual(len(rows), len(closing.rows(one, other, [])))
                    self.assertEqual(len(rows), closing_cost(words, equations, words[one], words[other]))
        many = [(f"c{at}",) for at in range(80)]
        ring = [(many[at], many[at + 1]) for at in range(79)] + [(many[79], many[0])]
        words = many + [f(word) for word in many] + [f(f(many[0])), f(f(many[79]))]
        rows = chain(words, ring, f(f(many[0])), f(f(many[79])))
        self.assertEqual(rows, [(79, False, [0, 0])])

    def test_told_is_new(self):
        rows = chain([A, B, C], [(A, B), (B, C)], A, C)
        rows[0][2].append(7)
        self.assertEqual(rows[1][2], [])


def closing_cost(words, equations, one, other):
    """The length of the shortest chain with words of these alone between its links, by going on until nothing falls."""
    costs = {(left, right): 0 if left == right else 10 ** 6 for left in words for right in words}
    for left, right in equations:
        if left != right:
            costs[left, right] = costs[right, left] = 1
    changed = True
    while changed:
        ahead = dict(costs)
        for left, right in itertools.product(words, repeat=2):
            if left[0] == right[0] and len(left) == len(right) and len(left) > 1:
                costs[left, right] = min(costs[left, right], sum([costs[x, y] for x, y in zip(left[1:], right[1:])]))
        for between in words:
            for left, right in itertools.product(words, repeat=2):
                costs[left, right] = min(costs[left, right], costs[left, between] + costs[between, right])
        changed = costs != ahead
    return costs[one, other]


CLAUSES = [yes(equal(f(A), B), p(f(B))), no(p(A)), yes(("r", A, f(A))), no(("r", B, A)) + yes(Q)]
# a, b, f(a), f(b) stand there.
TABLE = ([[A], [B, f(A)], [f(B)]], [("r", [0, 1])])


class TableTests(Case):
    def fault(self, thing):
        return table_fault(CLAUSES, thing)

    def test_kept(self):
        self.assertIsNone(self.fault(TABLE))
        self.assertIsNone(self.fault(as_lists(TABLE)))
        self.assertIsNone(table_fault(as_tuples(CLAUSES), as_tuples(TABLE)))
        self.assertIsNone(self.fault(([[f(B)], [f(A), B], [A]], [("r", [2, 1]), ("q", [])])))
        self.assertIsNone(self.fault(([[f(B)], [f(A), B], [A]], [("q", []), ("p", [0]), ("r", [2, 1]), ("q", [])])))
        self.assertIsNone(table_fault([], ([], [])))
        self.assertIsNone(table_fault([yes(Q)], ([], [("q", [])])))

    def test_form(self):
        for thing in THINGS:
            told = ("words",) if thing == ([], []) else ("form",)
            self.assertEqual(self.fault(thing), told)
            if not isinstance(thing, (list, tuple)) or len(thing) > 0:
                self.assertEqual(self.fault((thing, [])), ("form",), thing)
                self.assertEqual(self.fault((TABLE[0], thing)), ("form",))
                is_lot = thing in ([("q",)], (("c",),))
                self.assertEqual(self.fault((TABLE[0][:2] + [thing], [])), ("words",) if is_lot else ("form",), thing)
            self.assertEqual(self.fault((TABLE[0], [thing])), ("form",))
            is_number = isinstance(thing, int) and not isinstance(thing, bool) and thing >= 0
            told = ("form",) if not is_number else None if thing == 0 else ("facts",)
            self.assertEqual(self.fault((TABLE[0], [("r", [thing, 1])])), told)
            self.assertEqual(self.fault((TABLE[0], [(thing, [0, 1])])), ("form",) if thing not in ("c", "p") else ("facts",))
        for bad in ((TABLE[0], TABLE[1], []), (TABLE[0],), (TABLE[0] + [[]], TABLE[1]), (TABLE[0] + [["X"]], TABLE[1]), (TABLE[0] + [[f("X")]], TABLE[1]),
                    ([A], []), (TABLE[0], [("r", [0, -1])]), (TABLE[0], [("r", (0, True))]), (TABLE[0], [("r", 0, 1)]), (TABLE[0], ["r"])):
            self.assertEqual(self.fault(bad), ("form",), bad)

    def test_words(self):
        for lots in ([[A], [B, f(A)]], TABLE[0] + [[C]], TABLE[0] + [[A]], [[A, A], [B, f(A)], [f(B)]], [], [[A], [B, f(A)], [f(C)]], [[A], [B, f(A)], [f(B, B)]]):
            self.assertEqual(self.fault((lots, [("q", [9])])), ("words",), lots)

    def test_torn(self):
        self.assertEqual(kinds(self.fault(([[A, B], [f(A)], [f(B)]], [("q", [7])]))), kinds(("torn", f(A), f(B))))
        clauses = [yes(equal(g(f(A), B), g(f(B), A))), yes(p(g(A, A)), p(g(B, B)))]
        words = all_words(clauses)
        lots = [[A, B], [f(A), f(B)]] + [[word] for word in words[2:] if word[0] == "g"]
        self.assertEqual(table_fault(clauses, (lots, [])), ("torn", g(A, A), g(B, B)))
        lots = [[A, B], [g(A, A), g(B, B)], [f(A)], [f(B)], [g(f(B), A)], [g(f(A), B)]]
        self.assertEqual(table_fault(clauses, (lots, [])), ("torn", f(A), f(B)))
        three = [yes(p(f(A)), p(f(B)), p(f(C)))]
        self.assertEqual(table_fault(three, ([[A, B, C], [f(A), f(B)], [f(C)]], [])), ("torn", f(A), f(C)))

    def test_facts(self):
        for fact in (("r", [1, 1]), ("r", [0]), ("r", [0, 1, 0]), ("p", [1]), ("p", [7]), ("s", []), ("q", [0]), ("f", [0])):
            self.assertEqual(self.fault((TABLE[0], [fact])), ("facts",), fact)
            self.assertEqual(self.fault((TABLE[0], TABLE[1] + [fact])), ("facts",), fact)

    def test_clause(self):
        self.assertEqual(self.fault((TABLE[0], [])), ("clause", 2))
        self.assertEqual(self.fault((TABLE[0], TABLE[1] + [("p", [0])])), ("clause", 1))
        self.assertEqual(self.fault(([[A], [B], [f(A)], [f(B)]], [])), ("clause", 0))
        self.assertEqual(self.fault(([[A], [B], [f(A)], [f(B)]], [("p", [3])])), ("clause", 2))
        self.assertEqual(self.fault((TABLE[0], TABLE[1] + [("r", [1, 0])])), ("clause", 3))
        self.assertEqual(table_fault([yes(Q), []], ([], [("q", [])])), ("clause", 1))
        self.assertEqual(table_fault([no(equal(A, A))], ([[A]], [])), ("clause", 0))

    def test_errors_in_order(self):
        for ask in (lambda bad: table_fault(bad, None), ground_answer):
            self.check_clause_errors(ask)
            for bad in (yes(p("X")), yes(Q, equal(f("X"), A))):
                self.caught_at(HasVariables, 1, lambda: ask([yes(p(A)), bad, bad]))
            self.caught_at(BadClauses, 2, lambda: ask([yes(p("X")), yes(p(A)), None]))


def plain_table(clauses):
    """Whether some truths of all atoms go together and make all clauses hold."""
    atoms, words = all_atoms(clauses), all_words(clauses)
    for truths in itertools.product([True, False], repeat=len(atoms)):
        worth = dict(zip(atoms, truths))
        if all(any(worth[atom] == is_so for is_so, atom in clause) for clause in clauses):
            lots = plain_classes(words, [atom[1:] for atom in atoms if atom[0] == "=" and worth[atom]])
            home = {word: at for at, lot in enumerate(lots) for word in lot}
            seen = {}
            fits = True
            for atom in atoms:
                row = (atom[0],) + tuple([home[word] for word in atom[1:]])
                if atom[0] == "=":
                    fits = fits and (row[1] == row[2]) == worth[atom]
                else:
                    fits = fits and seen.setdefault(row, worth[atom]) == worth[atom]
            if fits:
                return True
    return False


class AnswerTests(Case):
    def check(self, clauses):
        """Just one of both, whichever."""
        kind, told = ground_answer(clauses)
        if kind == "table":
            self.assertIsNone(table_fault(clauses, told))
            self.check_table_kinds(told)
        else:
            self.assertEqual(kind, "clash")
            self.assertTrue(is_refutation(clauses, told))
            for row in told:
                self.assertIn(row[0], ("given", "alike", "either", "replace", "resolve"))
                self.assertFalse([words for words in row[2] if words])
        return kind

    def check_table_kinds(self, told):
        self.assertEqual([type(part) for part in (told, told[0], told[1])], [tuple, list, list])
        for lot in told[0]:
            self.assertIsInstance(lot, list)
            self.assertEqual(lot, sorted(lot, key=written))
        self.assertEqual([lot[0] for lot in told[0]], sorted([lot[0] for lot in told[0]], key=written))
        for fact in told[1]:
            self.assertEqual([type(fact), type(fact[1])], [tuple, list])
        self.assertEqual(told[1], sorted(told[1]))

    def test_small(self):
        self.assertEqual(kinds(ground_answer([])), kinds(("table", ([], []))))
        self.assertEqual(kinds(ground_answer([[]])), kinds(("clash", [("given", [0], [], None, [])])))
        for clauses, kind in (([yes(Q), no(Q)], "clash"), ([yes(Q, p(A)), no(p(A))], "table"), ([no(equal(A, A))], "clash"), ([yes(equal(A, B)), no(equal(B, A))], "clash"),
                              ([yes(equal(A, B)), no(equal(f(A), f(B)))], "clash"), ([yes(equal(A, B), equal(A, C)), no(equal(A, B))], "table"),
                              ([yes(equal(A, B)), yes(p(A)), no(p(B))], "clash"), ([yes(equal(f(f(f(A))), A)), yes(equal(f(f(A)), A)), no(equal(f(A), A))], "clash"),
                              ([yes(equal(f(f(f(A))), A)), no(equal(f(A), A))], "table"), ([yes(Q), [], no(Q)], "clash"),
                              ([yes(Q) + no(Q), yes(equal(A, A))], "table"), ([yes(Q, Q, Q), no(Q, Q)], "clash"), ([yes(("r", A, B)), no(("r", B, A)), yes(equal(B, A))], "clash")):
            self.assertEqual(self.check(clauses), kind)
            self.assertEqual(ground_answer(as_lists(clauses)), ground_answer(as_tuples(clauses)))

    def test_against_all_truths(self):
        chance = random.Random(4)
        seen = {"table": 0, "clash": 0}
        for _ in range(350):
            words = drawn_words(chance, 6)
            atoms = [chance.choice([equal(chance.choice(words), chance.choice(words)), p(chance.choice(words)), ("r", chance.choice(words), chance.choice(words)), Q])
                     for _ in range(7)]
            clauses = [[(chance.random() < 0.5, chance.choice(atoms)) for _ in range(1 + chance.randrange(3))] for _ in range(4 + chance.randrange(8))]
            kept = copy.deepcopy(clauses)
            kind = self.check(clauses)
            self.assertEqual(clauses, kept)
            self.assertEqual(kind == "table", plain_table(clauses))
            seen[kind] += 1
        self.assertGreater(min(seen.values()), 80)

    def test_at_the_limits(self):
        chance = random.Random(5)
        seen = []
        for many in (400, 520, 560):
            clauses = [[(chance.random() < 0.5, (f"q{at}",)) for at in chance.sample(range(120), 3)] for _ in range(many)]
            seen.append(self.check(clauses[:500] if many < 520 else [clause[:2] if at < 60 else clause for at, clause in enumerate(clauses[:500])]))
        self.assertEqual(sorted(set(seen)), ["clash", "table"])
        words = [(f"c{at}",) for at in range(30)]
        for _ in range(3):
            words = words + [("f", word) for word in words[-30:]]
        atoms = [equal(*chance.sample(words, 2)) for _ in range(80)] + [p(word) for word in chance.sample(words, 40)]
        for many, chances in ((150, 0.3), (300, 0.6), (330, 0.5)):
            self.check([[(chance.random() < chances, atom) for atom in chance.sample(atoms, 3)] for _ in range(many)])

    def test_pigeons(self):
        """Five constants that are each one of four, and all unlike."""
        birds, holes = [(f"b{at}",) for at in range(5)], [(f"h{at}",) for at in range(4)]
        clauses = [yes(*[equal(bird, hole) for hole in holes]) for bird in birds]
        apart = [no(equal(one, other)) for one, other in itertools.combinations(birds, 2)]
        self.assertEqual(self.check(clauses + apart), "clash")
        self.assertEqual(self.check(clauses + apart[1:]), "table")


class LevelTests(Case):
    def check(self, clauses, deep):
        """A refutation of the clauses: rows given, then instances, then of ground ones; or a table of the instances."""
        kind, told = level(clauses, deep, 500)
        pairs = instances(clauses, deep, 500)
        more = clauses + [yes(equal(("k1",), ("k1",)))]
        ground = [instance_of(more[index], words) for index, words in pairs]
        self.assertEqual(kind, ground_answer(ground)[0])
        if kind == "table":
            self.assertIsNone(table_fault(ground, told))
            return kind
        self.assertIsNone(derivation_fault(clauses, told))
        self.assertEqual(told[-1][4], [])
        rules = [{"given": 0, "instance": 1}.get(row[0], 2) for row in told]
        self.assertEqual(rules, sorted(rules))
        for row in told:
            self.assertIn(row[0], ("given", "instance", "alike", "either", "replace", "resolve"))
            if row[0] == "instance":
                self.assertEqual(told[row[1][0]][0], "given")
                self.assertIn((told[row[1][0]][1][0], row[2][0]), pairs)
            else:
                self.assertFalse([words for words in row[2] if words])
        return kind

    def test_example(self):
        self.assertEqual(kinds(level(EXAMPLE, 0, 3)), kinds(("table", ([[A], [f(A)], [f(f(A))]], [("p", [0]), ("p", [1])]))))
        self.assertEqual([least_depth(EXAMPLE, most, 100) for most in (0, 1, 5)], [None, 1, 1])
        self.assertEqual(level([yes(equal(f("X1"), "X1")), yes(p(A))], 0, 3), ("table", ([[A, f(A)]], [("p", [0])])))
        self.assertEqual(self.check(EXAMPLE, 1), "clash")
        self.assertEqual(level(as_lists(EXAMPLE), 2, 9), level(as_tuples(EXAMPLE), 2, 9))
        self.assertEqual(needed(EXAMPLE, 1, 9), [(0, {}), (1, {"X1": A}), (1, {"X1": f(A)}), (2, {})])

    def test_no_constant(self):
        self.assertEqual(level([], 0, 1), ("table", ([[("k1",)]], [])))
        self.assertEqual(self.check([yes(p("X")), no(p(f("Y")))], 1), "clash")
        self.assertEqual(self.check([yes(p("X")), no(p(f("Y")))], 0), "table")
        self.assertEqual(self.check([yes(Q), no(Q)], 0), "clash")
        self.assertEqual(level([yes(p("X"))], 1, 2)[1], ([[("k1",)]], [("p", [0])]))
        self.assertEqual(self.check([[]], 0), "clash")
        self.assertEqual(self.check([no(equal("X", "X"))], 0), "clash")
        self.assertEqual(self.check([no(equal("X", "X")) + yes(Q), no(Q)], 1), "clash")

    def test_drawn(self):
        chance = random.Random(6)
        seen = {"table": 0, "clash": 0}
        for _ in range(120):
            clauses = [drawn_clause(chance, ("X", "Y")) for _ in range(3 + chance.randrange(5))]
            deep = chance.randrange(2)
            if count_instances(clauses, deep) <= 150:
                kind = self.check(clauses, deep)
                seen[kind] += 1
                if kind == "clash" and count_instances(clauses, deep + 1) <= 250:
                    self.assertEqual(self.check(clauses, deep + 1), "clash")
        self.assertGreater(min(seen.values()), 20)

    def test_least_depth(self):
        steps = [yes(p(A)), no(p("X")) + yes(p(f("X")))]
        word = A
        for deep in range(4):
            word = f(word)
            clauses = steps + [no(p(word))]
            self.assertEqual(least_depth(clauses, 9, 100), deep)
            self.assertEqual(least_depth(clauses, deep, 100), deep)
            if deep > 0:
                self.assertIsNone(least_depth(clauses, deep - 1, 100))
        self.assertIsNone(least_depth([yes(p(A)), no(Q)], 10 ** 9, 2))
        self.assertIsNone(least_depth([yes(p("X")), no(Q)], 10 ** 9, 3))

    def test_least_depth_is_crowded_as_it_comes(self):
        clauses = [yes(p(A)), no(p("X")), no(p(g("X", "X")))]
        self.assertEqual(least_depth(clauses, 5, 3), 0)
        with self.assertRaises(Crowded):
            least_depth(clauses, 5, 2)
        later = [yes(p(A)), no(p(g("X", "Y")))]
        with self.assertRaises(Crowded) as caught:
            least_depth(later, 9, 10)
        self.assertEqual(caught.exception.many, 1 + 5 ** 2)
        self.assertIsNone(least_depth(later, 1, 10))

    def test_at_the_limits(self):
        """The words of a group: each has one inverse."""
        e, one, two = ("e",), ("h", "X"), ("m", "X", "Y")
        clauses = [yes(equal(("m", ("m", "X", "Y"), "Z"), ("m", "X", ("m", "Y", "Z")))), yes(equal(("m", e, "X"), "X")), yes(equal(("m", one, "X"), e)),
                   no(equal(("m", A, ("h", A)), e))]
        self.assertEqual(len(two), 3)
        self.assertEqual(count_instances(clauses, 0), 8 + 2 + 2 + 1)
        self.assertEqual(self.check(clauses, 0), "table")
        steps = [yes(("r", "X", f("X"))), no(("r", "X", "Y"), ("r", "Y", "Z")) + yes(("r", "X", "Z")), no(("r", A, f(f(f(f(A))))))]
        self.assertEqual(least_depth(steps, 6, 500), 4)
        self.assertEqual(self.check(steps, 4), "clash")
        kept = needed(steps, 4, 500)
        self.assertTrue(is_needed(steps, 4, 500, kept))


class NeededTests(Case):
    def test_drawn(self):
        chance = random.Random(7)
        found = 0
        while found < 40:
            clauses = [drawn_clause(chance, ("X", "Y")) for _ in range(4 + chance.randrange(4))]
            if count_instances(clauses, 1) > 120:
                continue
            if level(clauses, 1, 120)[0] == "table":
                with self.assertRaises(NoClash):
                    needed(clauses, 1, 120)
                self.assertIs(is_needed(clauses, 1, 120, []), False)
                self.assertFalse(is_needed(clauses, 1, 120, instances(clauses, 1, 120)))
                continue
            found += 1
            told = needed(clauses, 1, 120)
            self.assertEqual(told, needed(as_lists(clauses), 1, 120))
            pairs = instances(clauses, 1, 120)
            self.assertEqual([pair for pair in pairs if pair in told], told)
            ground = [instance_of(clauses[index], words) for index, words in told]
            self.assertEqual(ground_answer(ground)[0], "clash")
            for at in range(len(ground)):
                self.assertEqual(ground_answer(ground[:at] + ground[at + 1:])[0], "table")
                self.assertFalse(is_needed(clauses, 1, 120, told[:at] + told[at + 1:]))
                self.assertFalse(is_needed(clauses, 1, 120, told + [told[at]]))
            self.assertIs(is_needed(clauses, 1, 120, as_lists(told[::-1])), True)
            self.assertTrue(is_needed(clauses, 1, 120, as_tuples(told)))
            more = [pair for pair in pairs if pair not in told]
            if more:
                at = chance.randrange(len(told) + 1)
                self.assertFalse(is_needed(clauses, 1, 120, told + [chance.choice(more)]))
                self.assertFalse(is_needed(clauses, 1, 120, told[:at] + [chance.choice(more)] + told[at:]))
                self.assertFalse(is_needed(clauses, 1, 120, [chance.choice(more)] + told))

    def test_any_object(self):
        told = needed(EXAMPLE, 1, 9)
        for thing in THINGS:
            self.assertFalse(is_needed(EXAMPLE, 1, 9, thing))
            self.assertFalse(is_needed(EXAMPLE, 1, 9, told + [thing]))
            self.assertFalse(is_needed(EXAMPLE, 1, 9, told[1:] + [(thing, {})]) and (thing != 0 or isinstance(thing, bool)))
            self.assertFalse(is_needed(EXAMPLE, 1, 9, [told[0], (1, thing)] + told[2:]))
            self.assertFalse(is_needed(EXAMPLE, 1, 9, [told[0], (1, {"X1": thing})] + told[2:]))
        for pair in (("1", {"X1": A}), (1, {}), (1, {"X1": B}), (1, {"X2": A}), (1, {"X1": A, "X2": A}), (1, {"X1": f(f(A))}), (3, {}), (0, {"X1": A}), (1, {"X1": A}, None)):
            self.assertFalse(is_needed(EXAMPLE, 1, 9, [told[0], pair] + told[2:]), pair)
        self.assertFalse(is_needed(EXAMPLE, 0, 9, told))
        self.assertTrue(is_needed(EXAMPLE, 2, 9, told))
        twice = EXAMPLE + [EXAMPLE[0]]
        self.assertTrue(is_needed(twice, 1, 9, told[1:] + [(3, {})]))
        self.assertFalse(is_needed(twice, 1, 9, told + [(3, {})]))

    def test_put(self):
        self.assertEqual(put("X", {"X": A}), A)


if __name__ == "__main__":
    unittest.main()
