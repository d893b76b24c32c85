"""Texts of sentences, theories, problems and clauses: [10] to [13], [16]."""

import random
import unittest

from eithershown.clausetexts import clauses_fault, clauses_text, read_clauses
from eithershown.errors import BadClauses, BadNames, BadProblem, BadSentence, BadText, BadTheory
from eithershown.sentencetexts import read_sentence, sentence_fault, sentence_goes_on, sentence_text
from eithershown.signatures import Names
from eithershown.theories import Problem, Theory
from eithershown.theorytexts import (problem_fault, problem_text, read_problem, read_theory, theory_fault,
                                     theory_text)
from tests.making import BARE, CLOSE, M, M_NAMES, N, NO_CONSTANT, S, SMALL, THINGS, as_lists, kinds, some_sentence

NO_STRINGS = [thing for thing in THINGS if not isinstance(thing, str)]


class SentenceTextTests(unittest.TestCase):
    def test_each_form(self):
        p, c = ("p", "X"), ("c",)
        for sentence, text in ((("q",), "q"), (("p", ("f", c)), "p(f(c))"), (("r", "X", c), "r(X, c)"),
                               (("=", "X", ("g", c, "Y")), "X = g(c, Y)"), (("not", p), "not p(X)"),
                               (("and", p, ("q",)), "(p(X) and q)"), (("or", p, p), "(p(X) or p(X))"),
                               (("then", p, p), "(p(X) then p(X))"), (("iff", p, p), "(p(X) iff p(X))"),
                               (("all", "X", p), "all X: p(X)"), (("some", "Y1", ("not", ("=", c, c))), "some Y1: not c = c")):
            self.assertEqual(sentence_text(sentence), text)
            self.assertEqual(sentence_text(as_lists(sentence)), text)

    def test_of_whatever_names(self):
        self.assertEqual(sentence_text(("and", ("man", ("soc",)), ("man", "X", ("soc", "X")))),
                         "(man(soc) and man(X, soc(X)))")
        for thing in (None, "p", ("all",), ("p", "x"), ("=", "X"), ("p", ("=", "X", "X")), ("goal",), ("Q",), ("p", None),
                      ("p", ["x", "X"], 5), ("not", "X"), ("abcdefghi",), ("p",) + ("X",) * 7, {}, [], ()):
            with self.assertRaises(BadSentence) as caught:
                sentence_text(thing)
            self.assertIs(caught.exception.thing, thing)
        self.assertEqual(sentence_text(("p",) + ("X",) * 6), "p(X, X, X, X, X, X)")

    def test_read(self):
        self.assertEqual(read_sentence(M_NAMES, "all X: (man(X) then mortal(X))"),
                         ("all", "X", ("then", ("man", "X"), ("mortal", "X"))))
        told = read_sentence(SMALL, "(not g(c, f(c)) = c iff q)")
        self.assertEqual(told, ("iff", ("not", ("=", ("g", ("c",), ("f", ("c",))), ("c",))), ("q",)))
        self.assertEqual(kinds(told)[0], "tuple")

    def test_examples(self):
        for text, fault in (("man(X)", (1, 5)), ("all X: man(Y", (1, 12)), ("(man(soc) an", (1, 13)),
                            ("man(soc) and", (1, 9))):
            self.assertEqual(sentence_fault(M_NAMES, text), fault)
            with self.assertRaises(BadText) as caught:
                read_sentence(M_NAMES, text)
            self.assertEqual((caught.exception.line, caught.exception.sign), fault)

    def test_first_wrong_signs(self):
        for names, rows in ((M_NAMES, (("", (1, 1)), (" ", (1, 1)), ("\n", (1, 1)), ("man(soc)\n", (1, 9)), ("man", (1, 4)),
                                       ("mano", (1, 4)), ("mo", (1, 3)), ("all  X", (1, 5)), ("all x", (1, 5)),
                                       ("all X1234567: soc = soc", None), ("all X12345678", (1, 13)), ("all XY", (1, 6)),
                                       ("all X:s", (1, 7)), ("not\n", (1, 4)), ("nat", (1, 2)), ("soc", (1, 4)), ("soc=", (1, 4)),
                                       ("soc = man", (1, 7)), ("man(man", (1, 5)), ("man(soc, soc)", (1, 8)), ("soc(", (1, 4)),
                                       ("(man(soc))", (1, 10)), ("(man(soc) xor", (1, 11)), ("(man(soc) and man(soc)", (1, 23)),
                                       ("all X: all X1: man(X2", (1, 21)), ("all X: man(X\u0661", (1, 13)))),
                            (NO_CONSTANT, (("p", (1, 2)), ("p(", (1, 2)), ("f", (1, 1)), ("pq", None), ("all X: p(f(X))", None),
                                           ("all X: f", (1, 9)), ("some Y: p(X", (1, 11)))),
                            (BARE, (("p", (1, 1)), ("all X: X = X", None), ("X", (1, 1)), ("not not all", (1, 12)))),
                            (CLOSE, (("no", None), ("not", (1, 4)), ("nota", (1, 5)), ("not no", None), ("nota = a", None),
                                     ("al(a) = a", None), ("alla(a)", None), ("all A: alla(A)", None), ("al ", (1, 3)),
                                     ("false", (1, 5)), ("fals", None), ("som", (1, 4)), ("som ", (1, 4)), ("some", (1, 5)),
                                     ("nob", (1, 3))))):
            for text, fault in rows:
                self.assertEqual(sentence_fault(names, text), fault, text)

    def test_no_strings(self):
        for thing in NO_STRINGS:
            self.assertEqual(sentence_fault(SMALL, thing), (0, 0))
            self.assertIsNone(sentence_goes_on(SMALL, thing))
            with self.assertRaises(BadText) as caught:
                read_sentence(SMALL, thing)
            self.assertEqual((caught.exception.line, caught.exception.sign), (0, 0))

    def test_bad_names_first(self):
        for ask in (read_sentence, sentence_fault, sentence_goes_on, read_clauses, clauses_fault):
            with self.assertRaises(BadNames) as caught:
                ask("names", 5)
            self.assertEqual(caught.exception.thing, "names")

    def test_goes_on(self):
        for names, text in ((M_NAMES, "(man(soc) an"), (M_NAMES, ""), (BARE, ""), (BARE, "all"), (BARE, "(some X12"),
                            (NO_CONSTANT, "all X: p(f(f("), (CLOSE, "no"), (M_NAMES, "man(soc)"), (SMALL, "g(" * 50)):
            told = sentence_goes_on(names, text)
            self.assertTrue(told.startswith(text))
            self.assertIsNone(sentence_fault(names, told))
        for names, text in ((M_NAMES, "man(X"), (BARE, "X"), (NO_CONSTANT, "f"), (M_NAMES, "man(soc) ")):
            self.assertIsNone(sentence_goes_on(names, text))

    def test_goes_on_no_deeper_than_it_must(self):
        text = sentence_goes_on(BARE, "not " * 58)
        self.assertEqual(text, "not " * 58 + "all A: A = A")
        self.assertEqual(sentence_goes_on(SMALL, "not " * 59), "not " * 59 + "q")

    def test_long_texts(self):
        self.assertEqual(sentence_fault(SMALL, "(" * 3000), (1, 3001))
        self.assertEqual(sentence_fault(SMALL, "not " * 750), (1, 3001))
        self.assertEqual(sentence_fault(SMALL, "p(" + "f(" * 1400 + "X"), (1, 2803))

    def test_there_and_back_at_the_limits(self):
        names = Names([(f"f{k}", k - k // 7 * 7) for k in range(30)], [(f"p{k}", k - k // 7 * 7) for k in range(30)])
        deep = ("p1", ("f0",))
        for k in range(60):
            deep = ("not", deep) if k - k // 2 * 2 else ("all", f"X{k}", deep)
        self.assertEqual(read_sentence(names, sentence_text(deep)), deep)
        chance = random.Random(8)
        for _ in range(60):
            sentence = some_sentence(chance, names, 5, ())
            self.assertEqual(read_sentence(names, sentence_text(sentence)), sentence)


class TheoryTextTests(unittest.TestCase):
    def test_examples_there_and_back(self):
        for text in (M, S, N):
            problem = read_problem(text)
            self.assertEqual(problem_text(problem), text)
            self.assertIsNone(problem_fault(text))
            ahead = text[:text.index("goal")]
            self.assertEqual(theory_text(problem.theory()), ahead)
            self.assertEqual(read_theory(ahead), problem.theory())
            self.assertIsNone(theory_fault(ahead))

    def test_made(self):
        theory = Theory(M_NAMES, [("a1", ("all", "X", ("then", ("man", "X"), ("mortal", "X")))), ("a2", ("man", ("soc",)))])
        problem = Problem(theory, ("mortal", ("soc",)))
        self.assertEqual(problem_text(problem), M)
        self.assertEqual(read_problem(M), problem)

    def test_empty(self):
        self.assertEqual(read_theory(""), Theory(BARE, []))
        self.assertEqual(theory_text(Theory(BARE, [])), "")
        self.assertEqual(problem_fault(""), (1, 1))
        self.assertEqual(theory_fault("\n"), (1, 1))

    def test_names_mixed(self):
        text = "predicate p 1\nfunction b 0\npredicate o 0\nfunction a 2\naxiom z: p(b)\naxiom a: o\n"
        theory = read_theory(text)
        self.assertEqual(theory, Theory(Names([("a", 2), ("b", 0)], [("o", 0), ("p", 1)]),
                                        [("z", ("p", ("b",))), ("a", ("o",))]))
        self.assertEqual(theory_text(theory), "function a 2\nfunction b 0\npredicate o 0\npredicate p 1\n"
                                              "axiom z: p(b)\naxiom a: o\n")

    def test_first_wrong_signs(self):
        ahead = "function soc 0\npredicate man 1\n"
        for text, fault in (("function soc 0", (1, 15)), ("function soc 0\n\n", (2, 1)), ("function soc 7", (1, 14)),
                            ("function soc 00", (1, 15)), ("function soc  0", (1, 14)), ("function  soc", (1, 10)),
                            ("fun", (1, 4)), ("funk", (1, 4)), ("goal", (1, 1)), ("function function 0", (1, 17)),
                            ("function predicate", (1, 18)), ("function predicat 0\n", None), ("function instance", (1, 17)),
                            ("function not 0", (1, 13)), ("function nota 0\n", None), ("function abcdefghi", (1, 18)),
                            ("function Soc", (1, 10)), ("function 1", (1, 10)),
                            (ahead + "function soc 1", (3, 13)), (ahead + "function soca 1\n", None),
                            (ahead + "predicate soc 1", (3, 14)), (ahead + "function man", (3, 13)),
                            ("function abcdefgh 0\nfunction abcdefgh", (2, 17)),
                            ("function abcdefgh 0\nfunction abcdefg 0\n", None),
                            (ahead + "axiom a1: man(soc)\nfunction b 0\n", (4, 1)), (ahead + "axiom a1: man(X", (3, 15)),
                            (ahead + "axiom a1: man(soc)", (3, 19)), (ahead + "axiom a1: man(soc)\naxiom a1", (4, 9)),
                            (ahead + "axiom a1: man(soc)\naxiom a1:", (4, 9)), (ahead + "axiom a1: man(soc)\naxiom a11: man(soc)\n", None),
                            (ahead + "axiom soc: man(soc)\n", None), (ahead + "axiom goal: ", (3, 11)), (ahead + "axiom a1 : ", (3, 9)),
                            (ahead + "axiom a1: man(soc)\n\n", (4, 1)), (ahead + "goal: man(soc)\n", (3, 1)),
                            ("axiom a1: all X: X = X\n", None), ("axiom a1: p", (1, 11))):
            self.assertEqual(theory_fault(text), fault, text)
            if fault is not None:
                with self.assertRaises(BadText) as caught:
                    read_theory(text)
                self.assertEqual((caught.exception.line, caught.exception.sign), fault)

    def test_all_names_with_one_beginning_taken(self):
        taken = ["abcdefg"] + ["abcdefg" + sign for sign in "abcdefghijklmnopqrstuvwxyz0123456789"]
        lines = "".join([f"function {name} 0\n" for name in taken])
        self.assertIsNone(theory_fault(lines))
        self.assertEqual(theory_fault(lines + "function abcdefg"), (38, 16))
        self.assertEqual(theory_fault(lines + "function abcdef 0\n"), None)
        self.assertEqual(theory_fault(lines[:-len(taken[-1]) - 12] + "function abcdefg9 0\n"), None)

    def test_problems_first_wrong_signs(self):
        ahead = M[:M.index("goal")]
        for text, fault in ((ahead, (6, 1)), (M[:-1], (6, 18)), (M + "\n", (7, 1)), (M + "goal: man(soc)\n", (7, 1)),
                            (ahead + "gaol", (6, 2)), (ahead + "goal:man", (6, 6)), (ahead + "goal: man(X)", (6, 11)),
                            ("goal: all X: X = X\n", None), ("goal: X", (1, 7)), (M.replace("a2", "a1"), (5, 9)),
                            (M.replace("mortal 1", "mortal 2"), (4, 39)), (ahead + "axiom a3: man(soc)\n", (7, 1))):
            self.assertEqual(problem_fault(text), fault, text)

    def test_wrong_objects(self):
        theory = Theory(BARE, [])
        for thing in NO_STRINGS:
            self.assertEqual(theory_fault(thing), (0, 0))
            self.assertEqual(problem_fault(thing), (0, 0))
            for read in (read_theory, read_problem):
                with self.assertRaises(BadText) as caught:
                    read(thing)
                self.assertEqual((caught.exception.line, caught.exception.sign), (0, 0))
            with self.assertRaises(BadTheory) as caught:
                theory_text(thing)
            self.assertIs(caught.exception.thing, thing)
            with self.assertRaises(BadProblem) as caught:
                problem_text(thing)
            self.assertIs(caught.exception.thing, thing)
        with self.assertRaises(BadProblem):
            problem_text(theory)


class ClauseTextTests(unittest.TestCase):
    def test_there_and_back(self):
        clauses = [[(False, ("p", "X")), (True, ("=", "X", ("c",)))], [], [(False, ("=", "Y", "Z1"))], [(True, ("q",))]]
        text = "not p(X) or X = c\nfalse\nnot Y = Z1\nq\n"
        self.assertEqual(clauses_text(clauses), text)
        self.assertEqual(clauses_text(as_lists(clauses)), text)
        self.assertEqual(read_clauses(SMALL, text), clauses)
        self.assertEqual(kinds(read_clauses(SMALL, text)), kinds(clauses))
        self.assertEqual((clauses_text([]), read_clauses(SMALL, ""), clauses_fault(SMALL, "")), ("", [], None))

    def test_like_literals(self):
        clause = [(True, ("q",)), (False, ("q",)), (True, ("q",))]
        self.assertEqual(clauses_text([clause]), "q or not q or q\n")
        self.assertEqual(read_clauses(SMALL, "q or not q or q\n"), [clause[:2]])

    def test_told_new(self):
        one, other = read_clauses(SMALL, "q\nq\n")
        one.append(None)
        self.assertEqual(other, [(True, ("q",))])

    def test_wrong_clauses(self):
        for thing in (None, "", {}, 5, "false\n"):
            with self.assertRaises(BadClauses) as caught:
                clauses_text(thing)
            self.assertEqual(caught.exception.index, 0)
        for bad in (None, "", {}, [("q",)], [(1, ("q",))], [(True, "X")], [(True, ("all", "X", ("q",)))], [(True, ("not", ("q",)))]):
            with self.assertRaises(BadClauses) as caught:
                clauses_text([[], [(True, ("q",))], bad, bad])
            self.assertEqual(caught.exception.index, 2)

    def test_first_wrong_signs(self):
        for text, fault in (("false", (1, 6)), ("false\n\n", (2, 1)), ("fals\n", (1, 5)), ("false or q\n", (1, 6)), ("q or false\n", (1, 7)),
                            ("q or", (1, 5)), ("q and", (1, 3)), ("not not q", (1, 5)), ("not q\n", None), ("q = q", (1, 3)),
                            ("X\n", (1, 2)), ("X = c\nY", (2, 2)), ("X12345678 = c", (1, 9)), ("p(c) or  q", (1, 9)), ("all X: q", (1, 1)),
                            ("q", (1, 2)), ("(q)", (1, 1)), (5, (0, 0)), (None, (0, 0)), ("p(d)\n", (1, 3))):
            self.assertEqual(clauses_fault(SMALL, text), fault, text)
            if fault:
                with self.assertRaises(BadText) as caught:
                    read_clauses(SMALL, text)
                self.assertEqual((caught.exception.line, caught.exception.sign), fault)
        self.assertEqual(clauses_fault(CLOSE, "fals\n"), None)
        self.assertEqual(clauses_fault(CLOSE, "nota = a\nno\nnot no\n"), None)
        self.assertEqual(clauses_fault(BARE, "not X = Y\n"), None)
        self.assertEqual(clauses_fault(BARE, "f\n"), (1, 2))


if __name__ == "__main__":
    unittest.main()
