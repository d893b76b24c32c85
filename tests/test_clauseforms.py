"""Clauses of sentences: [27] to [33], [35]."""

import copy
import random
import unittest

from eithershown.clauseforms import Form, problem_form
from eithershown.errors import BadGoal, BadProblem, BadTheory, BadWorld
from eithershown.grammar import is_clause
from eithershown.meaning import false_giving, first_false, holds, truth
from eithershown.naming import sides_named
from eithershown.normal import denied, normal
from eithershown.signatures import Names
from eithershown.spreading import size_of, spread
from eithershown.theories import Problem, Theory
from eithershown.theorytexts import read_problem
from eithershown.trimming import told_clause, trimmed
from eithershown.witnesses import witnessed
from eithershown.worlds import all_rows, forgotten, grown, world_fault
from eithershown.writing import clause_text
from tests.making import (M, N, S, THINGS, as_lists, kinds, some_clause, some_sentence, some_world, SMALL)
from tests.test_shapes import plain_worlds, shuffled

C = ("c",)
P, Q, R = ("p", "X"), ("q",), ("r", "X", "Y")
FEW = Names([("c", 0), ("f", 1)], [("p", 1), ("q", 0), ("r", 2)])
TINY = Names([], [("p", 1), ("r", 2)])


def texts(clauses):
    return [clause_text(clause) for _, clause in clauses]


def both(one, other):
    return ("and", one, other)


class TrimmedTests(unittest.TestCase):
    def test_trimmed(self):
        same = (False, ("=", "X", "X"))
        self.assertEqual(kinds(trimmed([[True, ["q"]], [False, ["=", ["c"], ["c"]]], (True, P), (True, Q), same])),
                         kinds([(True, Q), (True, P)]))
        self.assertEqual(trimmed([]), [])
        self.assertEqual(trimmed([same, same]), [])
        self.assertEqual(trimmed([(False, ("=", "X", C)), (False, ("=", "X", "Y"))]), [(False, ("=", "X", C)), (False, ("=", "X", "Y"))])
        for trivial in ([(True, Q), (True, P), (False, Q)], [(True, ("=", "X", "X"))], [(False, P), (True, ("=", C, C))],
                        [(True, ("=", C, "X")), (False, ("=", C, "X"))], [same, (True, same[1])]):
            self.assertIsNone(trimmed(trivial))
            self.assertIsNone(trimmed(as_lists(trivial[::-1])))
        self.assertEqual(trimmed([(True, ("=", C, "X")), (False, ("=", "X", C))]), [(True, ("=", C, "X")), (False, ("=", "X", C))])

    def test_told_clause(self):
        self.assertEqual(kinds(told_clause([[True, ["r", "X2", "X1"]], (False, ("p", "Y")), (True, ("r", "X2", "X1"))])),
                         kinds([(True, ("r", "X1", "X2")), (False, ("p", "X3"))]))
        self.assertEqual(told_clause([]), [])
        self.assertEqual(told_clause([(True, ("p", ("f", "Z"))), (True, P), (False, ("r", "Z", "X"))]),
                         [(True, ("p", ("f", "X1"))), (True, ("p", "X2")), (False, ("r", "X1", "X2"))])
        many = [(True, ("r", f"V{at}", f"V{at + 1}")) for at in range(12)]
        self.assertEqual(told_clause(many)[-1], (True, ("r", "X12", "X13")))

    def test_what_holds(self):
        chance = random.Random(1)
        for _ in range(200):
            clause = [(chance.random() < 0.5, atom) for _, atom in some_clause(chance, SMALL, 3)] + some_clause(chance, SMALL, 2)
            world = some_world(chance, SMALL, chance.randrange(1, 3))
            kept = copy.deepcopy(clause)
            left = trimmed(clause)
            does_hold = false_giving(world, clause) is None
            self.assertEqual(false_giving(world, told_clause(clause)) is None, does_hold)
            self.assertEqual(does_hold, True if left is None else false_giving(world, left) is None)
            self.assertEqual(clause, kept)


class NamingTests(unittest.TestCase):
    def test_literal_sides_stay(self):
        for sentence in (("all", "X", ("iff", P, ("not", ("p", C)))), Q, ("iff", ("=", C, C), Q), ("not", ("and", Q, Q))):
            self.assertEqual(kinds(sides_named(as_lists(sentence), [])), kinds((sentence, [])))

    def test_order_and_names(self):
        some_y = ("some", "Y", R)
        sentence = ("all", "X", ("iff", ("iff", some_y, ("not", ("not", Q))), ("iff", ("and", P, Q), P)))
        told, rows = sides_named(sentence, ["d2", "s1", "d4"])
        self.assertEqual(told, ("all", "X", ("iff", ("d6", "X"), ("d7", "X"))))
        self.assertEqual(kinds(rows), kinds([("d1", ["X"], some_y), ("d3", [], ("not", ("not", Q))), ("d5", ["X"], ("and", P, Q)),
                                             ("d6", ["X"], ("iff", ("d1", "X"), ("d3",))), ("d7", ["X"], ("iff", ("d5", "X"), P))]))

    def test_left_ahead_of_right_under_each_word(self):
        side = ("all", "Z", ("p", "Z"))
        for head in ("and", "or", "then", "iff"):
            _, rows = sides_named((head, ("iff", side, Q), ("not", ("iff", Q, ("not", side)))), ())
            self.assertEqual(rows[:2], [("d1", [], side), ("d2", [], ("not", side))])
            self.assertEqual(len(rows), 4 if head == "iff" else 2)
            if head == "iff":
                self.assertEqual(rows[2:], [("d3", [], ("iff", ("d1",), Q)), ("d4", [], ("not", ("iff", Q, ("d2",))))])

    def test_variables_as_they_first_stand_free(self):
        side = ("and", ("some", "X", ("r", "X", "Z")), ("and", ("r", "Y", "X"), ("all", "Z", ("r", "Z", "Z"))))
        sentence = ("all", "X", ("all", "Y", ("all", "Z", ("iff", side, Q))))
        told, rows = sides_named(sentence, [])
        self.assertEqual(rows, [("d1", ["Z", "Y", "X"], side)])
        self.assertEqual(told, ("all", "X", ("all", "Y", ("all", "Z", ("iff", ("d1", "Z", "Y", "X"), Q)))))

    def test_worlds(self):
        chance = random.Random(2)
        for _ in range(120):
            sentence = some_sentence(chance, FEW, 4, (), ("X", "Y"))
            told, rows = sides_named(sentence, ["c", "f", "p", "q", "r"])
            world = some_world(chance, FEW, 2)
            for name, variables, side in rows:
                facts = [row for row in all_rows(2, len(variables)) if truth(world, side, dict(zip(variables, row)))]
                world = grown(world, {}, {name: facts})
                self.assertTrue(holds(world, definition(name, variables, side)))
            self.assertEqual(holds(world, sentence), holds(world, told))


def definition(name, variables, side):
    told = ("iff", (name,) + tuple(variables), side)
    for variable in variables[::-1]:
        told = ("all", variable, told)
    return told


class WitnessTests(unittest.TestCase):
    def test_order_and_names(self):
        sentence = ("all", "V0", both(("some", "V1", both(("r", "V1", "V0"), ("some", "V2", ("r", "V2", "V1")))),
                                      ("some", "V3", ("or", ("p", "V3"), ("all", "V4", ("some", "V5", ("r", "V5", "V4")))))))
        told, rows = witnessed(as_lists(sentence), ("s2",))
        s1, s3, s4 = ("s1", "V0"), ("s3", "V0"), ("s4",)
        self.assertEqual(kinds(rows), kinds([
            ("s1", ["V0"], "V1", both(("r", "V1", "V0"), ("some", "V2", ("r", "V2", "V1")))),
            ("s3", ["V0"], "V2", ("r", "V2", s1)),
            ("s4", [], "V3", ("or", ("p", "V3"), ("all", "V4", ("some", "V5", ("r", "V5", "V4"))))),
            ("s5", ["V4"], "V5", ("r", "V5", "V4"))]))
        self.assertEqual(kinds(told), kinds(("all", "V0", both(both(("r", s1, "V0"), ("r", s3, s1)),
                                                               ("or", ("p", s4), ("all", "V4", ("r", ("s5", "V4"), "V4")))))))

    def test_variables_as_they_first_stand(self):
        sentence = ("all", "V0", ("all", "V1", ("some", "V2", ("or", ("r", "V2", "V1"), ("not", ("r", "V0", "V2"))))))
        told, rows = witnessed(sentence, [])
        self.assertEqual(rows[0][:2], ("s1", ["V1", "V0"]))
        word = ("s1", "V1", "V0")
        self.assertEqual(told, ("all", "V0", ("all", "V1", ("or", ("r", word, "V1"), ("not", ("r", "V0", word))))))

    def test_nothing_to_do(self):
        for sentence in (Q, ("not", Q), ("all", "X", ("or", P, ("=", "X", C)))):
            self.assertEqual(witnessed(sentence, ["s1"]), (sentence, []))

    def test_worlds(self):
        chance = random.Random(3)
        for _ in range(120):
            sentence = normal(some_sentence(chance, FEW, 3, (), ("X", "Y")))
            told, rows = witnessed(sentence, [])
            world = some_world(chance, FEW, 2)
            for name, variables, variable, part in rows:
                table = {}
                for row in all_rows(2, len(variables)):
                    giving = dict(zip(variables, row))
                    right = [thing for thing in range(2) if truth(world, part, {**giving, variable: thing})]
                    table[row] = min(right + [5]) if right else 0
                world = grown(world, {name: table}, {})
            self.assertEqual(holds(world, sentence), holds(world, told))
            functions = {name: {row: chance.randrange(2) for row in all_rows(2, len(variables))} for name, variables, _, _ in rows}
            if holds(grown(world, functions, {}), told):
                self.assertTrue(holds(world, sentence))


def some_bare(chance, depth):
    if depth == 0 or chance.random() < 0.15:
        atom = chance.choice([P, Q, ("p", C), ("r", "X", "Y"), ("r", ("f", "Y"), C), ("=", "X", "Y"), ("q",)])
        return atom if chance.random() < 0.5 else ("not", atom)
    return (chance.choice(["and", "or"]), some_bare(chance, depth - 1), some_bare(chance, depth - 1))


def atoms(many):
    return [(f"a{at}",) for at in range(many)]


def conjunction(sentences):
    told = sentences[0]
    for sentence in sentences[1:]:
        told = both(told, sentence)
    return told


def stated(*sentences):
    return [(True, atom) for atom in sentences]


class SpreadTests(unittest.TestCase):
    def test_small(self):
        a, b, c, d = atoms(4)
        self.assertEqual(kinds(spread(["not", list(a)], [])), kinds(([[(False, a)]], [], [])))
        self.assertEqual(spread(both(a, b), [])[0], [[(True, a)], [(True, b)]])
        self.assertEqual(spread(("or", both(a, b), both(c, d)), []), ([stated(a, c), stated(a, d), stated(b, c), stated(b, d)], [], []))
        self.assertEqual(spread(("or", a, ("or", a, b)), []), ([stated(a, a, b)], [], []))

    def test_four_lists_and_five(self):
        made = atoms(6)
        four, five = conjunction(made[:4]), conjunction(made[:5])
        last = made[5]
        self.assertEqual(spread(("or", four, last), [])[0], [stated(atom, last) for atom in made[:4]])
        lists, more, rows = spread(("or", five, last), ["d1"])
        self.assertEqual(lists, [stated(("d2",), last)])
        self.assertEqual(more, [[(False, ("d2",)), (True, atom)] for atom in made[:5]])
        self.assertEqual(kinds(rows), kinds([("d2", [], [stated(atom) for atom in made[:5]])]))
        lists, more, rows = spread(("or", last, five), [])
        self.assertEqual(lists, [stated(last, ("d1",))])
        lists, more, rows = spread(("or", conjunction(made[:3]), both(made[3], last)), [])
        self.assertEqual(lists, [stated(("d1",), ("d2",))])
        self.assertEqual([row[0] for row in rows], ["d1", "d2"])
        self.assertEqual(more, [[(False, ("d1",)), (True, atom)] for atom in made[:3]] + [[(False, ("d2",)), (True, atom)] for atom in (made[3], last)])

    def test_variables_and_lists_within(self):
        left = conjunction([("or", ("p", "Y"), ("not", R)), Q, ("r", "Z", "X")])
        lists, more, rows = spread(("or", left, both(Q, ("p", C))), [])
        parts = [[(True, ("p", "Y")), (False, R)], stated(Q), stated(("r", "Z", "X"))]
        self.assertEqual(kinds(rows), kinds([("d1", ["Y", "X", "Z"], parts), ("d2", [], [stated(Q), stated(("p", C))])]))
        atom = ("d1", "Y", "X", "Z")
        self.assertEqual(more[:3], [[(False, atom)] + part for part in parts])
        self.assertEqual(lists, [stated(atom, ("d2",))])

    def test_new_names_within_come_ahead(self):
        made = atoms(4)
        inner = ("or", conjunction(made[:3]), both(Q, ("p", C)))
        lists, more, rows = spread(("or", both(inner, conjunction(made)), Q), [])
        self.assertEqual([row[0] for row in rows], ["d1", "d2", "d3"])
        self.assertEqual(rows[2][2][0], stated(("d1",), ("d2",)))
        self.assertEqual(lists, [stated(("d3",), Q)])
        self.assertEqual(len(more), 3 + 2 + 5)

    def test_told_is_new(self):
        lists, more, rows = spread(("or", conjunction(atoms(5)), Q), [])
        rows[0][2][0].append(None)
        lists[0].append(None)
        self.assertEqual(more[0], [(False, ("d1",)), (True, ("a0",))])

    def test_worlds(self):
        """For all givings, and both ways, by all truths of few new predicates."""
        chance = random.Random(4)
        for _ in range(150):
            sentence = some_bare(chance, chance.randrange(5))
            lists, more, rows = spread(sentence, ["d3"])
            world = some_world(chance, FEW, 2)
            for name, variables, parts in rows:
                facts = [row for row in all_rows(2, len(variables))
                         if all(self.is_so(world, part, dict(zip(variables, row))) for part in parts)]
                world = grown(world, {}, {name: facts})
            other = grown(world, {}, {name: [row for row in all_rows(2, len(variables)) if chance.random() < 0.7]
                                      for name, variables, _ in rows})
            for row in all_rows(2, 2):
                giving = dict(zip(("X", "Y"), row))
                is_true = truth(world, sentence, giving)
                self.assertEqual(is_true, all(self.is_so(world, part, giving) for part in lists + more))
                if all(self.is_so(other, part, giving) for part in lists + more):
                    self.assertTrue(is_true)

    def is_so(self, world, literals, giving):
        return any(truth(world, atom, giving) == is_so for is_so, atom in literals)

    def test_size_of(self):
        self.assertEqual(size_of(Q), 1)
        self.assertEqual(size_of(["=", ["f", "X"], "Y"]), 1)
        self.assertEqual(size_of(("all", "X", ("some", "Y", ("not", ("iff", P, ("then", Q, ("or", Q, ("and", P, R)))))))), 12)


class FormTests(unittest.TestCase):
    def form(self, text):
        return problem_form(read_problem(text))

    def test_examples(self):
        iff = ("all", "X", ("iff", P, ("some", "Y", R)))
        form = Form(Theory(TINY, [("a1", iff)]), None)
        self.assertEqual(texts(form.clauses()), ["not p(X1) or d1(X1)", "not d1(X1) or p(X1)", "not d1(X1) or r(X1, s1(X1))",
                                                 "not r(X1, X2) or d1(X1)", "k1 = k1"])
        self.assertEqual([label for label, _ in form.clauses()], ["a1"] * 4 + ["things"])
        self.assertEqual(kinds(form.rows()), kinds([("side", "d1", ["X"], ("some", "Y", R)), ("witness", "s1", ["V0"], "V1", ("r", "V0", "V1")),
                                                    ("constant", "k1")]))
        self.assertEqual(form.names(), Names([("k1", 0), ("s1", 1)], [("d1", 1), ("p", 1), ("r", 2)]))
        self.assertEqual(form.bound(), 1 + 20 * 5)
        self.assertEqual(self.form(M).clauses(), [("a1", [(False, ("man", "X1")), (True, ("mortal", "X1"))]), ("a2", [(True, ("man", ("soc",)))]),
                                                  ("goal", [(False, ("mortal", ("soc",)))])])
        self.assertEqual(texts(self.form(S).clauses()), ["p(s1)", "not p(s2)"])
        self.assertEqual(self.form(M).bound(), 1 + 20 * (4 + 1 + 2))
        self.assertEqual(texts(self.form(N).clauses()), ["less(X1, next(X1))", "not less(X1, X2) or not less(X2, X3) or less(X1, X3)",
                                                         "not less(X1, X1)", "not odd", "k1 = k1"])

    def test_kinds(self):
        form = Form(Theory(FEW, [["a1", as_lists(("all", "X", ("or", both(P, ("some", "Y", R)), both(Q, both(Q, ("p", C))))))]]), None)
        pair = [[(True, ("p", "V0"))], [(True, ("r", "V0", ("s1", "V0")))]]
        self.assertEqual(kinds(form.rows()), kinds([("witness", "s1", ["V0"], "V1", ("r", "V0", "V1")), ("part", "d1", ["V0"], pair),
                                                    ("part", "d2", [], [stated(Q), stated(Q), stated(("p", C))])]))
        self.assertEqual(kinds(form.clauses()[0]), kinds(("a1", [(True, ("d1", "X1")), (True, ("d2",))])))
        self.assertEqual(texts(form.clauses()), ["d1(X1) or d2", "not d1(X1) or p(X1)", "not d1(X1) or r(X1, s1(X1))",
                                                 "not d2 or q", "not d2 or p(c)"])

    def test_like_and_trivial_ones_fall(self):
        names = Names([("c", 0)], [("p", 1), ("q", 0)])
        axioms = [("a1", both(Q, ("or", Q, ("not", Q)))), ("a2", both(("p", C), Q)), ("a3", ("all", "X", ("or", P, ("not", ("=", "X", "X"))))),
                  ("a4", ("all", "Y", ("p", "Y"))), ("a5", ("or", Q, ("p", C))), ("a6", ("or", ("p", C), Q)), ("a7", ("not", ("=", C, C)))]
        form = Form(Theory(names, axioms), Q)
        self.assertEqual([(label, clause_text(clause)) for label, clause in form.clauses()],
                         [("a1", "q"), ("a2", "p(c)"), ("a3", "p(X1)"), ("a5", "q or p(c)"), ("a6", "p(c) or q"), ("a7", "false"), ("goal", "not q")])

    def test_a_constant_that_falls_gives_way_to_a_new_one(self):
        names = Names([("c", 0), ("k1", 1)], [("q", 0), ("k2", 0)])
        form = Form(Theory(names, [("a1", ("=", C, C))]), ("q",))
        self.assertEqual(form.rows(), [("constant", "k3")])
        self.assertEqual(form.clauses(), [("goal", [(False, ("q",))]), ("things", [(True, ("=", ("k3",), ("k3",)))])])
        self.assertEqual(form.names(), Names([("c", 0), ("k1", 1), ("k3", 0)], [("q", 0), ("k2", 0)]))
        inside = Form(Theory(names, [("a1", ("all", "X", ("=", ("k1", ("k1", C)), "X")))]), None)
        self.assertEqual(inside.rows(), [])

    def test_names_that_are_taken(self):
        names = Names([("s1", 1), ("d1", 0)], [("d3", 1), ("p", 1), ("r", 2), ("s2", 0)])
        side = ("some", "Y", R)
        form = Form(Theory(names, [("a1", ("all", "X", ("iff", P, side))), ("a2", ("all", "X", ("iff", side, P)))]), ("some", "X", P))
        self.assertEqual([row[:2] for row in form.rows()], [("side", "d2"), ("witness", "s3"), ("side", "d4"), ("witness", "s4"), ("constant", "k1")])

    def test_order_of_rows(self):
        """The sides of a sentence, then its witnesses and parts, then those of each definition."""
        some_y = ("some", "Y", R)
        five = both(P, both(Q, both(("p", C), both(("r", "X", "X"), some_y))))
        sentence = ("all", "X", both(("iff", some_y, five), ("some", "Z", ("or", ("p", "Z"), five))))
        form = Form(Theory(FEW, [("a1", sentence)]), None)
        self.assertEqual([row[:2] for row in form.rows()],
                         [("side", "d1"), ("side", "d2"), ("witness", "s1"), ("witness", "s2"), ("part", "d3"), ("witness", "s3"), ("witness", "s4"), ("part", "d4")])

    def test_definitions_bind_all_variables(self):
        between = ("some", "Z", both(("r", "X", "Z"), ("r", "Z", "Y")))
        form = Form(Theory(TINY, [("a1", ("all", "X", ("all", "Y", ("iff", between, R))))]), None)
        self.assertEqual(form.rows(), [("side", "d1", ["X", "Y"], between),
                                       ("witness", "s1", ["V0", "V1"], "V2", both(("r", "V0", "V2"), ("r", "V2", "V1"))), ("constant", "k1")])
        self.assertEqual(texts(form.clauses()), ["not d1(X1, X2) or r(X1, X2)", "not r(X1, X2) or d1(X1, X2)", "not d1(X1, X2) or r(X1, s1(X1, X2))",
                                                 "not d1(X1, X2) or r(s1(X1, X2), X2)", "not r(X1, X2) or not r(X2, X3) or d1(X1, X3)", "k1 = k1"])

    def test_told_is_new(self):
        form = self.form(S)
        form.clauses()[0][1].append(None)
        form.rows()[0][2].append(None)
        form.rows().append(None)
        self.assertEqual(texts(form.clauses()), ["p(s1)", "not p(s2)"])
        self.assertEqual(len(form.rows()), 2)
        part = Form(Theory(FEW, [("a1", ("or", conjunction([Q, ("p", C), ("q",)]), both(Q, ("p", C))))]), None)
        part.rows()[0][3][0].append(None)
        self.assertEqual(part.rows()[0][3][0], stated(Q))
        self.assertEqual(form.rows()[0], ("witness", "s1", [], "V0", ("p", "V0")))

    def test_equal(self):
        one = read_problem(M)
        self.assertTrue(problem_form(one) == Form(one.theory(), as_lists(one.goal())))
        self.assertFalse(problem_form(one) == Form(one.theory(), None))
        self.assertFalse(problem_form(one) == Form(one.theory(), ("man", ("soc",))))
        self.assertFalse(problem_form(one) == problem_form(read_problem(M.replace("a2", "a3"))))
        self.assertTrue(Form(one.theory(), None) == Form(one.theory(), None))
        for thing in THINGS + (one, one.theory()):
            self.assertFalse(problem_form(one) == thing)

    def test_errors(self):
        theory = read_problem(M).theory()
        for thing in THINGS:
            with self.assertRaises(BadTheory) as caught:
                Form(thing, 5)
            self.assertIs(caught.exception.thing, thing)
            with self.assertRaises(BadProblem) as caught:
                problem_form(thing)
            self.assertIs(caught.exception.thing, thing)
            if thing is not None:
                with self.assertRaises(BadGoal) as caught:
                    Form(theory, thing)
                self.assertIs(caught.exception.thing, thing)
        for thing in (("man", "X"), ("man", C), ("all", "X", ("man", "Y"))):
            with self.assertRaises(BadGoal):
                Form(theory, thing)

    def test_no_goal_and_no_axioms(self):
        form = Form(Theory(Names([], []), []), None)
        self.assertEqual(form.clauses(), [("things", [(True, ("=", ("k1",), ("k1",)))])])
        self.assertEqual(form.bound(), 1)
        self.assertEqual(form.names(), Names([("k1", 0)], []))


class GrownTests(unittest.TestCase):
    def test_tables(self):
        form = Form(Theory(TINY, [("a1", ("all", "X", ("iff", P, ("some", "Y", R))))]), None)
        world = (2, {}, {"p": [(0,)], "r": [(0, 1)]})
        kept = copy.deepcopy(world)
        told = form.with_tables([2, {}, {"r": [[0, 1]], "p": ([0],)}])
        self.assertEqual(kinds(told), kinds((2, {"k1": {(): 0}, "s1": {(0,): 1, (1,): 0}}, {"d1": [(0,)], "p": [(0,)], "r": [(0, 1)]})))
        self.assertEqual(kinds(form.without_tables(told)), kinds(world))
        told[2]["p"].append(None)
        self.assertEqual(world, kept)

    def test_bad_worlds(self):
        form = Form(Theory(TINY, [("a1", ("all", "X", ("iff", P, ("some", "Y", R))))]), None)
        world = (2, {}, {"p": [(0,)], "r": [(0, 1)]})
        for thing in THINGS + ((2, {}, {"p": []}), (2, {"c": {(): 0}}, {"p": [], "r": []}), (2, {}, {"p": [(2,)], "r": []}), form.with_tables(world)):
            with self.assertRaises(BadWorld) as caught:
                form.with_tables(thing)
            self.assertIs(caught.exception.thing, thing)
        for thing in THINGS + (world, (2, {}, {"p": []})):
            with self.assertRaises(BadWorld) as caught:
                form.without_tables(thing)
            self.assertIs(caught.exception.thing, thing)

    def check(self, form, theory, goal, world):
        all_told = form.with_tables(world)
        self.assertIsNone(world_fault(form.names(), all_told))
        is_one = first_false(world, theory) is None and (goal is None or not holds(world, goal))
        self.assertEqual(all(false_giving(all_told, clause) is None for _, clause in form.clauses()), is_one)
        self.assertEqual(form.without_tables(all_told), forgotten(world, theory.names()))
        return is_one

    def test_all_small_worlds(self):
        """The axioms are true and the goal false just if all clauses hold in the grown world."""
        chance = random.Random(5)
        names = Names([("c", 0)], [("p", 1), ("q", 0)])
        worlds = [world for many in (1, 2, 3) for world in plain_worlds(names, many)]
        seen = 0
        for _ in range(60):
            axioms = [(f"a{at}", some_sentence(chance, names, 4, (), ("X", "Y", "Z"))) for at in range(chance.randrange(3))]
            goal = chance.choice([None, some_sentence(chance, names, 3, (), ("X", "Y"))])
            theory = Theory(names, axioms)
            form = Form(theory, goal)
            for clause in [clause for _, clause in form.clauses()]:
                self.assertTrue(is_clause(form.names(), clause))
            self.assertLessEqual(sum([len(clause) for _, clause in form.clauses()]), form.bound())
            for world in worlds:
                seen += self.check(form, theory, goal, world)
        self.assertGreater(seen, 200)

    def test_drawn_worlds(self):
        chance = random.Random(6)
        for _ in range(80):
            theory = Theory(SMALL, [(f"a{at}", some_sentence(chance, SMALL, 3, (), ("X", "Y"))) for at in range(2)])
            goal = some_sentence(chance, SMALL, 3, (), ("X", "Y"))
            form = Form(theory, goal)
            self.check(form, theory, goal, shuffled(chance, some_world(chance, SMALL, 2)))
            self.assertEqual(form.clauses(), problem_form(Problem(theory, goal)).clauses())

    def test_and_back(self):
        """Whatever tables the new names have: where all clauses hold the theory without the goal does."""
        chance = random.Random(7)
        seen = 0
        for _ in range(300):
            theory = Theory(TINY, [("a1", some_sentence(chance, TINY, 3, (), ("X", "Y")))])
            form = Form(theory, None)
            for _ in range(4):
                world = some_world(chance, form.names(), 2)
                if all(false_giving(world, clause) is None for _, clause in form.clauses()):
                    self.assertIsNone(first_false(form.without_tables(world), theory))
                    seen += 1
        self.assertGreater(seen, 50)

    def test_great_sentences(self):
        chance = random.Random(8)
        parts = []
        while sum([size_of(part) for part in parts]) < 620:
            part = some_sentence(chance, FEW, 4, (), ("X", "Y"))
            parts.append(("iff", part, some_sentence(chance, FEW, 4, (), ("X", "Y"))))
        while len(parts) > 1:
            parts = [(chance.choice(["and", "or", "iff"]), parts[0], parts[1])] + parts[2:]
            parts = parts[1:] + parts[:1]
        sentence = parts[0]
        self.assertLessEqual(depth_of(sentence), 30)
        theory = Theory(FEW, [("a1", sentence)])
        form = Form(theory, None)
        self.assertLessEqual(sum([len(clause) for _, clause in form.clauses()]), form.bound())
        for many in (1, 2, 4):
            self.check(form, theory, None, some_world(chance, FEW, many))

    def test_many_lists_stay_few(self):
        """An or of many ands would be spread into many lists; named, it stays within the bound."""
        pairs = [both((f"a{at}",), (f"b{at}",)) for at in range(40)]
        names = Names([], [(f"{letter}{at}", 0) for letter in "ab" for at in range(40)])
        sentence = pairs[0]
        for pair in pairs[1:]:
            sentence = ("or", sentence, pair)
        form = Form(Theory(names, [("a1", sentence)]), None)
        self.assertLessEqual(sum([len(clause) for _, clause in form.clauses()]), form.bound())
        self.assertEqual(denied(sentence)[0], "and")


def depth_of(sentence):
    if sentence[0] in ("not", "and", "or", "then", "iff"):
        return 1 + max([depth_of(part) for part in sentence[1:]])
    return 1 + depth_of(sentence[2]) if sentence[0] in ("all", "some") else 0


if __name__ == "__main__":
    unittest.main()
