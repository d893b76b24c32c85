"""Each function and method of the interface tells by names of parameters, in another order, what it tells by place."""

import importlib
import inspect
import unittest

from eithershown import errors
from eithershown.answers import answer_for
from eithershown.clauseforms import Form
from eithershown.orders import Order
from eithershown.papertexts import answer_text
from eithershown.sessions import Session
from eithershown.signatures import Names
from eithershown.theories import Problem, Theory
from eithershown.theorytexts import read_problem
from tests.making import E, M, M_NAMES, SMALL, kinds
from tests.test_interface import CLASSES, FUNCTIONS

A, B = ("a",), ("b",)
PM = read_problem(M)
ANSWER = answer_for(PM, 0, 1, 500)
TEXT = answer_text(ANSWER)
NAMES = Names([("c", 0), ("f", 1)], [("p", 1)])
GROUND = [[(True, ("p", A))], [(False, ("p", B))]]
REFUTED = [[(True, ("p", A))], [(False, ("p", A))]]
ROWS = [("given", [0], [], None, REFUTED[0]), ("given", [1], [], None, REFUTED[1]), ("resolve", [0, 1], [{}, {}], ("p", A), [])]
ORDER = Order([("a", 1), ("b", 1), ("f", 1), ("p", 1)])
RULES = [(("f", "X"), A)]
SENTENCE = ("all", "X", ("iff", ("p", "X"), ("some", "Y", ("not", ("p", "Y")))))
PLAIN = ("or", ("not", ("p", "X")), ("p", "Y"))
CLAUSE = [(True, ("p", "X")), (False, ("p", ("f", "X")))]
TABLE = ([[A], [B]], [("p", [0])])
WORLD = (2, {"a": {(): 0}, "b": {(): 1}}, {"p": [(0,)]})
FACTS = "things 1\nsoc is 0\nman 0\n"
ARITIES = [("a", 0), ("b", 0), ("f", 1)]
BAD = ("p", "X")

CALLS = {
    "is_word": (NAMES, ("c",)), "is_sentence": (NAMES, BAD), "is_closed": (NAMES, BAD), "is_clause": (NAMES, CLAUSE),
    "sentence_text": (SENTENCE,), "read_sentence": (M_NAMES, "man(soc)"), "sentence_fault": (M_NAMES, "man(X)"), "sentence_goes_on": (M_NAMES, "(man"),
    "theory_text": (PM.theory(),), "read_theory": ("predicate p 1\n",), "theory_fault": ("predicate p 7",), "problem_text": (PM,), "read_problem": (M,), "problem_fault": ("x",),
    "clauses_text": ([CLAUSE],), "read_clauses": (M_NAMES, "man(X)\n"), "clauses_fault": (M_NAMES, "man(x)"), "world_text": (NAMES, E), "read_world": (M_NAMES, FACTS),
    "world_text_fault": (M_NAMES, "things 0"), "derivation_text": (ROWS,), "read_derivation": (M_NAMES, "given 3: man(X)\n"), "derivation_text_fault": (M_NAMES, "given x"),
    "answer_text": (ANSWER,), "read_answer": (M_NAMES, TEXT.replace("X1", "X2")), "answer_fault": (M_NAMES, "follows x"),
    "all_rows": (2, 3), "world_fault": (NAMES, (2, {}, {})), "forgotten": (E, Names([], [("p", 1)])), "grown": (E, {"d": {(): 1}}, {"q": [()]}),
    "value": (E, ("f", "X"), {"X": 0}), "truth": (E, BAD, {"X": 1}), "holds": (E, SENTENCE), "first_false": ((1, {"soc": {(): 0}}, {"man": [(0,)], "mortal": []}), PM.theory()),
    "false_giving": (E, [(True, BAD)]), "free_in": (PLAIN,), "same_but_names": (SENTENCE, ("all", "Z", SENTENCE[2])), "names_apart": (SENTENCE,),
    "substituted": (PLAIN, {"X": ("c",)}), "plain": (SENTENCE,), "inward": (("not", PLAIN),), "normal": (SENTENCE,), "denied": (SENTENCE,),
    "turned": (E, [1, 0]), "turn_between": (E, E), "telling": (NAMES, E), "count_worlds": (NAMES, 3), "world_at": (NAMES, 2, 5), "world_number": (NAMES, E),
    "count_shapes": (NAMES, 2), "first_shape": (NAMES, E), "trimmed": (CLAUSE,), "told_clause": (CLAUSE,), "sides_named": (SENTENCE, ["p"]),
    "witnessed": (("some", "V0", ("p", "V0")), ["p", "s1"]), "spread": (PLAIN, ["p"]), "size_of": (SENTENCE,), "problem_form": (PM,),
    "places": (("f", A),), "word_at": (("f", A), [0]), "word_put": (("f", A), [0], B), "depth": (("f", A),), "variables_of": (("g", "Y", "X"),),
    "put": (("f", "X"), {"X": A}), "behind": ({"X": "Y"}, {"Y": A}), "match": ("X", A), "match_fault": (A, "X"), "unify": ([("X", A)],), "unify_paper": ([(A, B)],),
    "is_unify_paper": ([(A, B)], ([(A, B, ("given", 0))], ("clash", 0))), "compare": (ORDER, A, B), "form": (CLAUSE,), "named_apart": (CLAUSE, ["X"]), "is_trivial": (CLAUSE,),
    "laid": ([(True, BAD)], CLAUSE, True), "laid_tree": (CLAUSE, [(True, BAD)], False), "condensed": (CLAUSE,), "instance_of": (CLAUSE, {"X": A}),
    "literal_at": ((True, ("p", A)), [0]), "literal_with": ((True, ("p", A)), [0], B), "resolved": (REFUTED[0], REFUTED[1], ("p", A)),
    "replaced": ([(True, ("=", A, B))], [(True, ("p", A))], A, B, (True, ("p", A)), [0]), "same_gone": ([(False, ("=", A, A))], A),
    "derivation_fault": (REFUTED, ROWS[1:]), "is_refutation": (REFUTED, ROWS), "needed_rows": (REFUTED, ROWS), "shortened": (REFUTED, ROWS), "needed_clauses": (REFUTED, ROWS),
    "discharged": (REFUTED[:1], (False, ("p", A)), ROWS), "joined": ([[(True, ("p", A))], [(False, ("p", A))]], ("p", B), ROWS, ROWS), "lifted": (REFUTED, ROWS),
    "symbols_of": (GROUND,), "words_at": ([("a", 0), ("f", 1)], 2), "count_words": ([("a", 0), ("f", 1)], 2), "count_instances": ([CLAUSE], 2), "instances": ([CLAUSE], 1, 9),
    "classes": ([A, B], [(A, B)]), "chain": ([A, B], [(A, B)], B, A), "is_chain": ([(A, B)], A, B, [(0, True, [])]), "table_fault": (GROUND, TABLE), "ground_answer": (GROUND,),
    "level": (GROUND, 0, 5), "least_depth": (REFUTED, 2, 9), "needed": (REFUTED, 0, 5), "is_needed": (REFUTED, 0, 5, [(0, {}), (1, {})]),
    "table_of": (GROUND, 0, 5, WORLD), "is_full": (GROUND, 0, 5, TABLE), "world_of": (GROUND, 0, 5, TABLE), "tree_fault": (GROUND, 1, ("clash", 0, {})),
    "tree_size": (("clash", 0, {}),), "world_sized": (GROUND, 2), "least_size": (GROUND, 2), "kind_of": (GROUND,), "size_bound": (GROUND,), "one_place_bound": ([SENTENCE],),
    "cut_down": (E,), "merged": (WORLD,), "twin": (WORLD, 1), "how_many": (GROUND, 2), "world_there": (GROUND, 2, 1), "conclusions": (ORDER, [(True, BAD)], [(False, BAD)]),
    "factors": (ORDER, [(True, BAD), (True, ("p", A))]), "loop": (ORDER, GROUND, 5), "saturation_fault": (ORDER, REFUTED), "maker": (ORDER, ARITIES, GROUND, ("p", A)),
    "fails_at": (ORDER, ARITIES, GROUND + [[]], 3), "steps_at": (ORDER, RULES, ("f", A)), "last_form": (ORDER, RULES, ("f", A)), "meetings": (ORDER, RULES), "unjoined": (ORDER, RULES),
    "equal_by": (ORDER, RULES, ("f", A), A), "is_word_chain": (RULES, ("f", A), A, [(0, True, [], {"X": A})]), "complete": (ORDER, RULES, 5), "chains_for": (ORDER, RULES, 5),
    "answer_for": (PM, 0, 1, 500), "answer_why": (PM, 0, 1, ANSWER), "audit": (M, TEXT.replace("follows 0", "follows 1"), 0, 1), "needed_names": (PM, 0, 500),
    "atoms_known": (PM.theory(), 0, [("man", ("soc",))], 500), "write_session": (Session(),), "read_session": (M.rpartition("goal")[0],),
}
DEED = ("predicate", "p", 0)
METHODS = {"with_tables": ((1, {"soc": {(): 0}}, {"man": [], "mortal": []}),), "without_tables": ((1, {"soc": {(): 0}}, {"man": [], "mortal": []}),), "do": (DEED,), "would": (DEED,),
           "is_question": (5,), "answer": (("ends", ("all", "X", ("=", "X", "X")), 0, 1),), "at": (0,), "trial": (lambda session: session.count(),)}


def plainly(told):
    """What is told, to be compared with its kinds: objects as they are."""
    return told if isinstance(told, (Names, Theory, Problem, Form, Order, Session)) else kinds(told)


def by_name(function, arguments):
    names = [name for name in inspect.signature(function).parameters if name != "self"]
    assert len(names) == len(arguments), (function, names)
    return function(**dict(list(zip(names, arguments))[::-1]))


class ByNameTests(unittest.TestCase):
    def test_functions(self):
        met = []
        for module, rows in FUNCTIONS.items():
            for row in rows:
                name = row.partition("(")[0]
                function = getattr(importlib.import_module("eithershown." + module), name)
                met.append(name)
                self.assertEqual(plainly(by_name(function, CALLS[name])), plainly(function(*CALLS[name])), name)
        self.assertEqual(sorted(met), sorted(CALLS))

    def test_classes(self):
        made = {"Names": (M_NAMES.functions(), M_NAMES.predicates()), "Theory": (M_NAMES, PM.theory().axioms()), "Problem": (PM.theory(), PM.goal()), "Form": (PM.theory(), PM.goal()),
                "Order": (ORDER.rows(),), "Session": ()}
        for module, groups in CLASSES.items():
            for row, methods in groups.items():
                name = row.partition("(")[0]
                kind = getattr(importlib.import_module("eithershown." + module), name)
                self.assertEqual(by_name(kind, made[name]), kind(*made[name]))
                for method in methods:
                    word = method.partition("(")[0]
                    arguments = METHODS.get(word, ())
                    if word != "__eq__":
                        one, other = kind(*made[name]), kind(*made[name])
                        self.assertEqual(plainly(by_name(getattr(one, word), arguments)), plainly(getattr(other, word)(*arguments)), word)

    def test_errors(self):
        self.assertEqual(vars(errors.WouldChange(becomes=1, was=2, question=3)), vars(errors.WouldChange(3, 2, 1)))
        self.assertEqual(vars(errors.BadText(sign=1, line=2)), vars(errors.BadText(2, 1)))


if __name__ == "__main__":
    unittest.main()
