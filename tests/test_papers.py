"""Texts of derivations and answers: [14], [15]."""

import random
import unittest

from eithershown.checking import is_refutation
from eithershown.errors import BadNames, BadPaper, BadText
from eithershown.papertexts import (answer_fault, answer_text, derivation_text, derivation_text_fault, read_answer,
                                    read_derivation)
from eithershown.signatures import Names
from tests.making import (BARE, E, SMALL, THINGS, as_lists, as_tuples, kinds, some_clause, some_open, some_row, some_tree,
                          some_world)
from tests.test_steps import CLAUSES, REFUTATION

C, D = ("c",), ("d",)
PX, PC = ("p", "X"), ("p", C)
NAMES = Names([("c", 0), ("d", 0), ("f", 1)], [("p", 1)])
E_NAMES = Names([("c", 0), ("f", 1)], [("p", 1)])
TREE = ("cell", "c", [], [("cell", "p", [0], [("clash", 0, {}), ("cell", "f", [0], [("clash", 1, {"X": 0})])])])
OPEN = ("open", 1, 2, ([[C, "X"], [("f", C)]], [("p", [0]), ("p", [1])]), [TREE, ("clash", 2, {"X1": 0, "X2": 1})])
OPEN_TEXT = """open 1 2
class c, X
class f(c)
fact p 0
fact p 1
size 1
cell c into 1
cell p 0 into 2
clash 0
cell f 0 into 1
clash 1 by X = 0
size 2
clash 2 by X1 = 0, X2 = 1
"""
ROWS = [
    ("given", [3], [], None, []),
    ("instance", [0], [{"X": C, "Y": ("f", "Z")}], None, [(False, PX)]),
    ("resolve", [1, 2], [{"X": C}, {}], PC, []),
    ("replace", [1, 2], [{}, {"X": C}], (C, D, (False, PC), [0]), []),
    ("same", [4], [{}], C, []),
    ("alike", [], [], C, [(True, ("=", C, C))]),
    ("either", [], [], PC, []),
    ("turned", [], [], (C, D), []),
    ("chained", [], [], (C, D, "X"), []),
    ("parts", [], [], (("f", C), ("f", D)), []),
    ("holds", [], [], (PC, ("p", D)), [(True, PC), (False, PX)]),
]
TEXT = """given 3: false
instance 0 by X = c, Y = f(Z): not p(X)
resolve 1 by X = c, 2 on p(c): false
replace 1, 2 by X = c put d for c in not p(c) at 0: false
same 4 of c: false
alike of c: c = c
either of p(c): false
turned of c, d: false
chained of c, d, X: false
parts of f(c), f(d): false
holds of p(c), p(d): p(c) or not p(X)
"""


class DerivationTextTests(unittest.TestCase):
    def test_each_rule(self):
        self.assertEqual(derivation_text(ROWS), TEXT)
        self.assertEqual(derivation_text(as_lists(ROWS)), TEXT)
        self.assertEqual(derivation_text(as_tuples(ROWS)), TEXT)
        self.assertEqual(read_derivation(NAMES, TEXT), ROWS)
        self.assertEqual(kinds(read_derivation(NAMES, TEXT)), kinds(ROWS))
        self.assertIsNone(derivation_text_fault(NAMES, TEXT))
        self.assertEqual((derivation_text([]), read_derivation(NAMES, "")), ("", []))

    def test_example_stays_a_refutation(self):
        text = derivation_text(REFUTATION)
        self.assertTrue(is_refutation(CLAUSES, read_derivation(NAMES, text)))

    def test_pairs_in_whatever_order(self):
        text = "instance 0 by Y = c, X = d, A = Y: false\n"
        told = read_derivation(NAMES, text)
        self.assertEqual(told, [("instance", [0], [{"X": D, "Y": C, "A": "Y"}], None, [])])
        self.assertEqual(list(told[0][2][0]), ["A", "X", "Y"])
        self.assertEqual(derivation_text(told), "instance 0 by A = Y, X = d, Y = c: false\n")

    def test_places_and_numbers(self):
        row = ("replace", [10, 999999999], [{"Y": C}, {}], ("X", ("f", D), (True, ("=", ("f", "X"), D)), [0, 0, 12]), [])
        text = "replace 10 by Y = c, 999999999 put f(d) for X in f(X) = d at 0 0 12: false\n"
        self.assertEqual(derivation_text([row]), text)
        self.assertEqual(read_derivation(NAMES, text), [row])

    def test_like_literals_are_told_once(self):
        self.assertEqual(derivation_text([("alike", [], [], C, [(True, PC), (True, PC)])]), "alike of c: p(c) or p(c)\n")
        self.assertEqual(read_derivation(NAMES, "alike of c: p(c) or p(c)\n"), [("alike", [], [], C, [(True, PC)])])

    def test_by_form_alone(self):
        for text in ("given 999999999: false\n", "same 7 of X: false\n", "parts of X, c: false\n", "holds of c = c, p(c): false\n",
                     "resolve 5, 5 on X = Y: p(c)\n"):
            self.assertIsNone(derivation_text_fault(NAMES, text), text)
            self.assertEqual(derivation_text(read_derivation(NAMES, text)), text)

    def test_first_wrong_signs(self):
        for text, fault in (("given 3", (1, 8)), ("given 3:false\n", (1, 9)), ("given 03", (1, 8)), ("given -1", (1, 7)),
                            ("given 1234567890", (1, 16)), ("given 3 by", (1, 8)), ("given 3: false", (1, 15)),
                            ("given 3: false\n\n", (2, 1)), ("given 3: false\nxyz", (2, 1)), ("resume", (1, 4)), ("replace 1:", (1, 10)),
                            ("resolve 1 on", (1, 11)), ("resolve 1, X", (1, 12)), ("replace 1, X = c", (1, 12)), ("resolve 1 by X = c on", (1, 19)), ("resolve 1 by X = c, X", (1, 22)),
                            ("resolve 1 by X = c, X =", (1, 22)), ("resolve 1 by X = c, X1 = c, 2 by X = c, 3", (1, 41)),
                            ("instance 1 by : ", (1, 15)), ("instance 1 by X = c, : ", (1, 22)), ("instance 1 by A1234567 = c, A1234567", (1, 36)),
                            ("instance 1 by X = p(c)", (1, 19)), ("instance 1 by X = e", (1, 19)), ("same 1 of p", (1, 11)),
                            ("same 1 of X: ", (1, 14)), ("either of c:", (1, 12)), ("either of not", (1, 11)), ("turned of c: ", (1, 12)),
                            ("turned of c, d, X", (1, 15)), ("chained of c, d: ", (1, 16)), ("parts of c,d", (1, 12)),
                            ("replace 1, 2 put d for c in p(c) at : ", (1, 37)), ("replace 1, 2 put d for c in p(c): ", (1, 33)),
                            ("replace 1, 2 put d for c in p(c) at 0  1", (1, 39)), ("replace 1, 2 put d for c in not not", (1, 33)),
                            ("resolve 1, 2 on not p(c)", (1, 17)), ("alike  of", (1, 7)), (None, (0, 0)), ([], (0, 0)), (ROWS, (0, 0))):
            self.assertEqual(derivation_text_fault(NAMES, text), fault, text)
            with self.assertRaises(BadText) as caught:
                read_derivation(NAMES, text)
            self.assertEqual((caught.exception.line, caught.exception.sign), fault)

    def test_without_names(self):
        self.assertIsNone(derivation_text_fault(BARE, "either of X = Y: false\n"))
        self.assertEqual(derivation_text_fault(BARE, "either of p"), (1, 11))
        self.assertEqual(derivation_text_fault(BARE, "either of X = c"), (1, 15))

    def test_wrong_papers(self):
        wrong = [None, "", {}, 5, [None], ROWS + [()], ROWS + [ROWS[0][:4]], [("given", [10 ** 9], [], None, [])],
                 [("given", [-1], [], None, [])], [("given", [0], [{}], None, [])], [("given", [0], [], C, [])],
                 [("instance", [0], [], None, [])], [("resolve", [0, 1], [{}, {}], None, [])], [("alike", [], [], PC, None)],
                 [("replace", [1, 2], [{}, {}], (C, D, (False, PC), []), [])],
                 [("replace", [1, 2], [{}, {}], (C, D, (False, PC), [10 ** 9]), [])], [("same", [0], [{"x": C}], C, [])],
                 [("either", [], [], "X", [])], [("turned", [], [], (C,), [])], [("put", [], [], None, [])]]
        for thing in wrong:
            with self.assertRaises(BadPaper) as caught:
                derivation_text(thing)
            self.assertIs(caught.exception.thing, thing)
            answer = ("follows", 0, thing)
            with self.assertRaises(BadPaper) as caught:
                answer_text(answer)
            self.assertIs(caught.exception.thing, answer)

    def test_bad_names(self):
        for ask in (read_derivation, derivation_text_fault, read_answer, answer_fault):
            with self.assertRaises(BadNames) as caught:
                ask([], None)
            self.assertEqual(caught.exception.thing, [])


class AnswerTextTests(unittest.TestCase):
    def test_follows(self):
        text = "follows 1\n" + TEXT
        self.assertEqual(answer_text(("follows", 1, ROWS)), text)
        self.assertEqual(answer_text(as_lists(("follows", 1, ROWS))), text)
        self.assertEqual(kinds(read_answer(NAMES, text)), kinds(("follows", 1, ROWS)))
        self.assertEqual(read_answer(NAMES, "follows 0\n"), ("follows", 0, []))

    def test_fails(self):
        text = "fails 2\nthings 2\nc is 0\nf 0 is 1\nf 1 is 0\np 0\n"
        self.assertEqual(answer_text(("fails", 2, E)), text)
        self.assertEqual(answer_text(["fails", 2, [2, E[1], {"p": [[0]]}]]), text)
        self.assertEqual(kinds(read_answer(E_NAMES, text)), kinds(("fails", 2, E)))
        mixed = "fails 7\nthings 2\np 0\nf 1 is 0\nc is 0\nf 0 is 1\n"
        self.assertEqual(kinds(read_answer(E_NAMES, mixed)), kinds(("fails", 7, E)))

    def test_worlds_at_the_limits(self):
        row = (0,) * 6
        for world in ((1, {"f": {row: 0}}, {"p": [row]}), (9, {"c": {(): 8}}, {"p": [(8, 8)], "q": []}), (9, {}, {})):
            text = answer_text(("fails", 999999999, world))
            names = Names([(name, len(list(world[1][name])[0])) for name in world[1]],
                          [(name, len((world[2][name] + [()])[0])) for name in world[2]])
            self.assertEqual(read_answer(names, text), ("fails", 999999999, world))

    def test_open(self):
        self.assertEqual(answer_text(OPEN), OPEN_TEXT)
        self.assertEqual(answer_text(as_lists(OPEN)), OPEN_TEXT)
        self.assertEqual(answer_text(as_tuples(OPEN)), OPEN_TEXT)
        self.assertEqual(read_answer(NAMES, OPEN_TEXT), OPEN)
        self.assertEqual(kinds(read_answer(NAMES, OPEN_TEXT)), kinds(OPEN))
        self.assertIsNone(answer_fault(NAMES, OPEN_TEXT))
        empty = ("open", 0, 0, ([], []), [])
        self.assertEqual((answer_text(empty), read_answer(NAMES, "open 0 0\n")), ("open 0 0\n", empty))

    def test_clash_in_whatever_order(self):
        text = "open 0 1\nsize 1\nclash 0 by X2 = 1, X = 3, A = 0\n"
        self.assertEqual(list(read_answer(NAMES, text)[4][0][2]), ["A", "X", "X2"])
        self.assertEqual(answer_text(read_answer(NAMES, text)), "open 0 1\nsize 1\nclash 0 by A = 0, X = 3, X2 = 1\n")

    def test_six_places(self):
        names = Names([("f", 6)], [("p", 6)])
        answer = ("open", 0, 1, ([], [("p", [5] * 6)]), [("cell", "f", [0] * 6, [])])
        self.assertEqual(read_answer(names, answer_text(answer)), answer)

    def test_there_and_back(self):
        chance = random.Random(18)
        for _ in range(100):
            many = chance.randrange(1, 4)
            for answer in (("fails", chance.randrange(9), some_world(chance, SMALL, many)), some_open(chance, SMALL),
                           ("follows", chance.randrange(9), [some_row(chance, SMALL) for _ in range(3)])):
                text = answer_text(answer)
                self.assertEqual(kinds(read_answer(SMALL, text)), kinds(answer))
                self.assertEqual(answer_text(as_lists(answer)), text)

    def test_deep_trees(self):
        tree = ("clash", 0, {})
        for _ in range(1500):
            tree = ("cell", "c", [], [tree])
        text = answer_text(("open", 0, 0, ([], []), [tree]))
        self.assertEqual(text.count("\n"), 1503)
        self.assertEqual(answer_text(read_answer(NAMES, text)), text)

    def test_first_wrong_signs(self):
        for text, fault in (("", (1, 1)), ("f", (1, 2)), ("fo", (1, 3)), ("fx", (1, 2)), ("follows", (1, 8)), ("follows 01", (1, 10)),
                            ("follows 1", (1, 10)), ("follows 1 ", (1, 10)), ("follows 1\nopen", (2, 1)), ("follows 1\ngiven 0: fals", (2, 14)),
                            ("fails 1\n", (2, 1)), ("fails 1\nthings 1\nc is 0\n", (4, 1)), ("fails 1\nthings 1\nc is 1", (3, 6)),
                            ("open 1", (1, 7)), ("open 1\n", (1, 7)), ("open 1 2", (1, 9)), ("open 1 2 3", (1, 9)), ("open 1 2\n\n", (2, 1)),
                            ("open 1 2\nclass\n", (2, 6)), ("open 1 2\nclass c,d", (2, 9)), ("open 1 2\nclass p", (2, 7)),
                            ("open 1 2\nfact p\n", (2, 7)), ("open 1 2\nfact p 0 0", (2, 9)), ("open 1 2\nfact c", (2, 6)),
                            ("open 1 2\nfact p 0\nclass", (3, 1)), ("open 1 2\nsize 2", (2, 6)), ("open 1 2\nsize 1\n", (3, 1)),
                            ("open 1 2\nsize 1\nsize 2", (3, 1)), ("open 1 2\nsize 1\nclash 0\nsize 3", (4, 6)),
                            ("open 1 2\nsize 1\nclash 0\nclash 0", (4, 1)), ("open 1 2\nsize 1\nclash 0\nfact", (4, 1)),
                            ("open 1 2\nsize 1\ncell c into 2\nclash 0\n", (5, 1)), ("open 1 2\nsize 1\ncell c into 1\nsize", (4, 1)),
                            ("open 1 2\nsize 1\ncell c 0", (3, 8)), ("open 1 2\nsize 1\ncell p into", (3, 8)),
                            ("open 1 2\nsize 1\ncell p 0 into x", (3, 15)), ("open 1 2\nsize 1\nclash 0 by X = 0, X = 1", (3, 20)),
                            ("open 1 2\nsize 1\nclash 0 by \n", (3, 12)), ("open 1 2\nsize 1\nclash 0 by X = c", (3, 16)),
                            ("open 1 2\nsize 1\ncell c into 0\n", None), ("open 1 2\nsize 1\ncell c into 99\n", (4, 1)),
                            (None, (0, 0)), (OPEN, (0, 0)), (OPEN_TEXT[:-1], (13, 26))):
            self.assertEqual(answer_fault(NAMES, text), fault, text)
            if fault is not None:
                with self.assertRaises(BadText) as caught:
                    read_answer(NAMES, text)
                self.assertEqual((caught.exception.line, caught.exception.sign), fault)

    def test_lines_that_no_name_can_end(self):
        no_predicates = Names([("c", 0)], [])
        self.assertEqual(answer_fault(no_predicates, "open 0 0\nf"), (2, 1))
        self.assertIsNone(answer_fault(no_predicates, "open 0 0\nclass c\nsize 1\ncell c into 0\n"))
        self.assertEqual(answer_fault(BARE, "open 0 0\nsize 1\nce"), (3, 2))
        self.assertIsNone(answer_fault(BARE, "open 0 0\nclass X, X\nsize 1\nclash 0\n"))

    def test_wrong_papers(self):
        many, functions, predicates = E
        worlds = [None, (), (0, functions, predicates), (10, {}, {}), (True, {}, {}), (2, None, {}), (2, {}, None), (2, {}, []),
                  (2, {"c": {(): 2}}, {}), (2, {"c": {}}, {}), (2, {"c": None}, {}), (2, {"c": []}, {}), (2, {"C": {(): 0}}, {}), (2, {"c": {(): 0}}, {"c": []}),
                  (2, {"f": {(0,): 0}}, {}), (2, {"f": {(0,): 0, (1, 1): 0}}, {}), (2, {}, {"p": [(2,)]}), (2, {}, {"p": [(0,), (0, 0)]}),
                  (2, {}, {"p": [(0,), (0,)]}), (2, {}, {"p": None}), (2, {}, {"not": []}), (2, {}, {"p": [(0,) * 7]}),
                  (1, {"f": {(0,) * 7: 0}}, {}), (2, {"f": {0: 0, 1: 1}}, {}), (2, {}, {"p": [0]}), (2, {5: {(): 0}}, {})]
        wrong = [("fails", 2, world) for world in worlds]
        table, trees = OPEN[3], OPEN[4]
        for bad in (None, (), ([],), ([], [], []), ([[]], []), ([["c"]], []), ([[("=", C, C)]], []), ([C], []), (None, []), ([], None),
                    ([], [("p", 0)]), ([], [("p", [-1])]), ([], [("P", [0])]), ([], [("p", [0], 0)]), ([], [("p", [True])]),
                    ([], [("p", [0] * 7)]), ([], [("p", [10 ** 9])]), {}):
            wrong.append(("open", 1, 2, bad, trees))
        for bad in (None, (), "clash", ("clash", 0), ("clash", -1, {}), ("clash", True, {}), ("clash", 0, []), ("clash", 0, {"x": 0}),
                    ("clash", 0, {"X": C}), ("clash", 0, {"X": True}), ("clash", 0, {}, []), ("cell", "c", []), ("cell", "c", [], None),
                    ("cell", "C", [], []), ("cell", "c", None, []), ("cell", "c", ["0"], []), ("cell", "c", [0] * 7, []),
                    ("cell", "c", [], [None]), ("cell", "c", [], [], []), ("node",), {}, ("clash", 10 ** 9, {})):
            wrong.append(("open", 1, 2, table, [bad]))
            wrong.append(("open", 1, 2, table, [("cell", "c", [], [("clash", 0, {}), bad])]))
        wrong += [("open", 1, 2, table, None), ("open", 1, table, trees), ("open", -1, 2, table, trees), ("open", 1, True, table, trees),
                  ("open", 1, 10 ** 9, table, trees), ("follows", 1), ("follows", 1, [], []), ("follows", True, []), ("follows", -1, []),
                  ("follows", "1", []), ("fails", 1, E, 1), ("fails", None, E), ("opens", 1, 2, table, trees), (1, 1, []), "open 0 0\n"]
        for thing in wrong + [thing for thing in THINGS]:
            with self.assertRaises(BadPaper) as caught:
                answer_text(thing)
            self.assertIs(caught.exception.thing, thing)

    def test_all_is_new(self):
        one = read_answer(NAMES, OPEN_TEXT)
        one[3][0][0].append(None)
        one[4].clear()
        self.assertEqual(read_answer(NAMES, OPEN_TEXT), OPEN)
        rows = read_derivation(NAMES, "resolve 1, 2 on p(c): false\n")
        rows[0][2][0]["X"] = C
        self.assertEqual(rows[0][2][1], {})

    def test_some_trees_and_clauses(self):
        chance = random.Random(19)
        for _ in range(50):
            tree = some_tree(chance, SMALL, 4)
            rows = [("either", [], [], ("q",), some_clause(chance, SMALL, 5))]
            self.assertEqual(read_answer(SMALL, answer_text(("open", 1, 1, ([], []), [tree])))[4], [tree])
            self.assertEqual(read_derivation(SMALL, derivation_text(rows)), rows)


if __name__ == "__main__":
    unittest.main()
