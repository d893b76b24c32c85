"""Names, words, sentences, clauses, theories and problems: [3], [7], [8], [9]."""

import copy
import random
import unittest

from eithershown.errors import BadAxioms, BadFunctions, BadGoal, BadNames, BadPredicates, BadTheory
from eithershown.grammar import is_clause, is_closed, is_sentence, is_word
from eithershown.kinds import KEPT, is_name, is_variable
from eithershown.signatures import Names
from eithershown.theories import Problem, Theory
from tests.making import M_NAMES, SMALL, THINGS, as_lists, kinds, some_clause, some_sentence

X = ("all", "X", ("p", "X"))
WORDS = ("all some not and or then iff false axiom goal function predicate things is by on of put for in at into given "
         "instance resolve replace same alike either turned chained parts holds class fact cell clash size follows "
         "fails open watch hold").split()


class NameTests(unittest.TestCase):
    def test_kept_words(self):
        self.assertEqual(list(KEPT), WORDS)
        for word in WORDS:
            self.assertFalse(is_name(word), word)

    def test_spelling(self):
        for right in ("a", "z9", "abcdefgh", "a1234567", "predicat", "nota", "al", "alls"):
            self.assertTrue(is_name(right), right)
        for wrong in ("", "9a", "A", "aB", "abcdefghi", "a b", "a_b", "a\n", "\u00e4", "a\u0661", None, 5, ["a"], ("a",)):
            self.assertFalse(is_name(wrong), wrong)
        for right in ("X", "Z0", "A1234567", "X007"):
            self.assertTrue(is_variable(right), right)
        for wrong in ("", "x", "1X", "XY", "A12345678", "Xa", "X ", "\u00c4", "X\u0661", None, 5, ["X"]):
            self.assertFalse(is_variable(wrong), wrong)

    def test_told_ascending_and_new(self):
        names = Names([("g", 2), ("b", 0), ("a", 6)], [("q", 0), ("p", 1)])
        self.assertEqual(names.functions(), [("a", 6), ("b", 0), ("g", 2)])
        self.assertEqual(names.predicates(), [("p", 1), ("q", 0)])
        names.functions().clear()
        names.predicates().append(("r", 1))
        self.assertEqual(names.functions(), [("a", 6), ("b", 0), ("g", 2)])
        self.assertEqual(names.predicates(), [("p", 1), ("q", 0)])

    def test_lists_for_tuples(self):
        functions, predicates = [["b", 0], ["a", 1]], (["p", 1],)
        names = Names(functions, predicates)
        self.assertEqual(names.functions(), [("a", 1), ("b", 0)])
        functions[0][0] = "z"
        functions.append(["y", 1])
        self.assertEqual(names.functions(), [("a", 1), ("b", 0)])

    def test_equal(self):
        one = Names([("a", 0), ("b", 1)], [("p", 0)])
        self.assertEqual(one, Names([("b", 1), ("a", 0)], [("p", 0)]))
        self.assertNotEqual(one, Names([("b", 2), ("a", 0)], [("p", 0)]))
        self.assertNotEqual(one, Names([("b", 1), ("a", 0)], [("p", 1)]))
        self.assertNotEqual(one, Names([("b", 1), ("a", 0)], []))
        for thing in THINGS:
            self.assertFalse(one == thing)
            self.assertTrue(one != thing)

    def wrong_functions(self, thing):
        with self.assertRaises(BadFunctions) as caught:
            Names(thing, None)
        return caught.exception.index

    def wrong_predicates(self, thing):
        with self.assertRaises(BadPredicates) as caught:
            Names([("a", 0), ("b", 1)], thing)
        return caught.exception.index

    def test_what_is_no_list_of_pairs(self):
        for thing in (None, "ab", {}, {"a": 0}, 5, SMALL, len):
            self.assertEqual(self.wrong_functions(thing), 0)
            self.assertEqual(self.wrong_predicates(thing), 0)
        for bad in (None, (), ("z",), ("z", 0, 0), ("z", 7), ("z", -1), ("z", True), ("z", "1"), ("z", None), ("Z", 0),
                    ("all", 0), (5, 0), ([], 0), "z0", {"z": 0, "y": 1}, ("y", 0)):
            self.assertEqual(self.wrong_functions([("y", 0), ("x", 6), bad, ("y", 1)]), 2, bad)
            self.assertEqual(self.wrong_predicates([("y", 0), ("x", 6), bad, ("y", 1)]), 2, bad)

    def test_no_predicate_is_a_function(self):
        self.assertEqual(self.wrong_predicates([("p", 0), ("b", 1)]), 1)

    def test_the_earlier_parameter_first(self):
        with self.assertRaises(BadFunctions):
            Names([("p", 9)], [("p", 9)])


class GrammarTests(unittest.TestCase):
    def test_words(self):
        for right in ("X", ("c",), ["c"], ("f", "X"), ("g", ("c",), ["f", ["c"]])):
            self.assertTrue(is_word(SMALL, right), right)
        for wrong in ("c", ("X",), ("f",), ("f", "X", "X"), ("p", "X"), ("q",), ("d",), ("f", "x"), ("=", "X", "X"), ("f", None)):
            self.assertFalse(is_word(SMALL, wrong), wrong)

    def test_sentences(self):
        atom = ("p", "X")
        for right in (atom, ["p", ["c"]], ("q",), ("=", "X", ("c",)), ("not", atom), ("and", atom, ("q",)),
                      ("or", atom, atom), ("then", atom, atom), ("iff", atom, ["q"]), ("all", "Y", atom),
                      ("some", "X", atom), ["all", "X", ["not", ["r", "X", "X"]]]):
            self.assertTrue(is_sentence(SMALL, right), right)
        for wrong in ("X", ("c",), ("p",), ("q", "X"), ("=", "X"), ("=", "X", ("q",)), ("not", atom, atom), ("not",),
                      ("and", atom), ("and", atom, atom, atom), ("nor", atom, atom), ("all", "x", atom),
                      ("all", ("X",), atom), ("all", "X"), ("some", "X", "X"), ("p", ("p", "X")), (), [], None,
                      ("and", None, atom), ("or", atom, None), ("iff", "X", atom), ("then", ("q",), ("z",)), ("not", "X")):
            self.assertFalse(is_sentence(SMALL, wrong), wrong)

    def test_closed(self):
        for right in (("q",), ("p", ("c",)), X, ("all", "X", ("some", "Y", ("r", "X", "Y"))),
                      ("all", "X", ("all", "X", ("p", "X")))):
            self.assertTrue(is_closed(SMALL, right), right)
        for wrong in (("p", "X"), ("and", X, ("p", "X")), ("all", "X", ("r", "X", "Y")), ("=", "X", "X"),
                      ("all", "X", ("c",)), ("all", "Y", ("p", ("f", "X")))):
            self.assertFalse(is_closed(SMALL, wrong), wrong)

    def test_clauses(self):
        for right in ([], (), [(True, ("p", "X")), [False, ["=", "X", ["c"]]]], [(True, ("q",)), (True, ("q",))]):
            self.assertTrue(is_clause(SMALL, right), right)
        for wrong in ([("q",)], [(1, ("q",))], [(0, ("q",))], [(None, ("q",))], [("not", ("q",))], [(True,)],
                      [(True, ("q",), 1)], [(True, ("c",))], [(True, X)], "", {}, None):
            self.assertFalse(is_clause(SMALL, wrong), wrong)

    def test_any_object(self):
        clauses = [kinds(thing) for thing in ([], (), [(True, ("q",))])]
        for thing in THINGS:
            self.assertEqual(is_word(SMALL, thing), thing == "X")
            self.assertEqual(is_sentence(SMALL, thing), thing in (["p", "X"], ("q",)))
            self.assertEqual(is_closed(SMALL, thing), thing == ("q",))
            self.assertEqual(is_clause(SMALL, thing), kinds(thing) in clauses, thing)

    def test_deep_ones(self):
        deep = ("q",)
        word = ("c",)
        for _ in range(2000):
            deep = ("not", deep)
            word = ("f", word)
        self.assertTrue(is_closed(SMALL, deep))
        self.assertTrue(is_word(SMALL, word))
        self.assertFalse(is_sentence(SMALL, word))

    def test_bad_names(self):
        for ask in (is_word, is_sentence, is_closed, is_clause):
            for thing in (None, [], ([], []), "names"):
                with self.assertRaises(BadNames) as caught:
                    ask(thing, None)
                self.assertIs(caught.exception.thing, thing)

    def test_by_chance(self):
        chance = random.Random(7)
        for _ in range(200):
            sentence = some_sentence(chance, SMALL, 4, ())
            self.assertTrue(is_closed(SMALL, sentence))
            self.assertTrue(is_closed(SMALL, as_lists(sentence)))
            self.assertTrue(is_sentence(SMALL, ("and", sentence, ("p", "X"))))
            self.assertTrue(is_clause(SMALL, as_lists(some_clause(chance, SMALL, 4))))


class TheoryTests(unittest.TestCase):
    def test_told(self):
        axioms = [["b", ["all", "X", ["p", "X"]]], ("a", ("q",))]
        before = copy.deepcopy(axioms)
        theory = Theory(SMALL, axioms)
        self.assertEqual(axioms, before)
        self.assertEqual(theory.names(), SMALL)
        self.assertEqual(theory.axioms(), [("b", X), ("a", ("q",))])
        axioms[0][1][0] = "some"
        theory.axioms().clear()
        self.assertEqual(theory.axioms(), [("b", X), ("a", ("q",))])

    def test_axioms_may_be_called_like_functions(self):
        self.assertEqual(Theory(SMALL, [("f", X), ("p", X)]).axioms(), [("f", X), ("p", X)])

    def test_equal(self):
        one = Theory(SMALL, [("a", X), ("b", ("q",))])
        self.assertEqual(one, Theory(SMALL, (["a", X], ["b", ["q"]])))
        self.assertNotEqual(one, Theory(SMALL, [("b", ("q",)), ("a", X)]))
        self.assertNotEqual(one, Theory(SMALL, [("a", X)]))
        self.assertNotEqual(one, Theory(Names(SMALL.functions(), SMALL.predicates() + [("s", 0)]), one.axioms()))
        for thing in THINGS:
            self.assertFalse(one == thing)
            self.assertFalse(Problem(one, X) == thing)
        self.assertEqual(Problem(one, X), Problem(Theory(SMALL, one.axioms()), as_lists(X)))
        self.assertNotEqual(Problem(one, X), Problem(one, ("q",)))
        self.assertNotEqual(Problem(one, X), Problem(Theory(SMALL, []), X))
        self.assertFalse(Problem(one, X) == one)

    def test_wrong_axioms(self):
        for thing in (None, "", {}, 5):
            with self.assertRaises(BadAxioms) as caught:
                Theory(SMALL, thing)
            self.assertEqual(caught.exception.index, 0)
        for bad in (None, ("z",), ("z", X, X), ("z", ("p", "X")), ("z", ("man", ("c",))), ("Z", X), ("goal", X), ("y", X),
                    (["z"], X), "zX", X):
            with self.assertRaises(BadAxioms) as caught:
                Theory(SMALL, [("y", X), ("x", X), bad, None])
            self.assertEqual(caught.exception.index, 2, bad)

    def test_errors_in_order(self):
        with self.assertRaises(BadNames) as caught:
            Theory("no names", None)
        self.assertEqual(caught.exception.thing, "no names")
        theory = Theory(SMALL, [])
        with self.assertRaises(BadTheory) as caught:
            Problem(SMALL, None)
        self.assertIs(caught.exception.thing, SMALL)
        for thing in (None, ("p", "X"), ["p"], "p", X + (1,)):
            with self.assertRaises(BadGoal) as caught:
                Problem(theory, thing)
            self.assertIs(caught.exception.thing, thing)

    def test_problem(self):
        goal = ["all", "X", ["p", "X"]]
        problem = Problem(Theory(M_NAMES, []), ("man", ("soc",)))
        self.assertEqual(problem.goal(), ("man", ("soc",)))
        self.assertEqual(problem.theory(), Theory(M_NAMES, []))
        problem = Problem(Theory(SMALL, []), goal)
        goal[0] = "some"
        self.assertEqual(problem.goal(), X)


if __name__ == "__main__":
    unittest.main()
