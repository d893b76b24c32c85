"""Meaning, bound names, normal forms: [18] to [22], [26]."""

import copy
import itertools
import random
import unittest

from eithershown.binding import free_in, names_apart, same_but_names, substituted
from eithershown.errors import BadGiving, BadTheory
from eithershown.grammar import is_sentence
from eithershown.meaning import false_giving, first_false, holds, truth, value
from eithershown.normal import denied, inward, normal, plain
from eithershown.signatures import Names
from eithershown.steps import instance_of
from eithershown.theories import Theory
from tests.making import (E, SMALL, THINGS, as_lists, kinds, some_clause, some_sentence, some_substitution, some_word,
                          some_world)

C = ("c",)
PX, PY = ("p", "X"), ("p", "Y")
E_NAMES = Names([("c", 0), ("f", 1)], [("p", 1)])


def open_sentence(chance, depth):
    return some_sentence(chance, SMALL, depth, ("X", "Y", "V0"))


def givings(variables, many):
    return [dict(zip(variables, row)) for row in itertools.product(range(many), repeat=len(variables))]


def slow_truth(world, sentence, giving):
    """The truth by the words of the document alone."""
    many, functions, predicates = world

    def worth(word):
        return giving[word] if isinstance(word, str) else functions[word[0]][tuple([worth(part) for part in word[1:]])]

    head = sentence[0]
    if head in ("all", "some"):
        told = [slow_truth(world, sentence[2], {**giving, sentence[1]: thing}) for thing in range(many)]
        return False not in told if head == "all" else True in told
    if head in ("and", "or", "then", "iff", "not"):
        told = [slow_truth(world, part, giving) for part in sentence[1:]]
        return {"and": lambda: told == [True, True], "or": lambda: True in told, "then": lambda: told != [True, False],
                "iff": lambda: told[0] == told[1], "not": lambda: told == [False]}[head]()
    row = tuple([worth(word) for word in sentence[1:]])
    return row[0] == row[1] if head == "=" else row in predicates[head]


class MeaningTests(unittest.TestCase):
    def test_example(self):
        self.assertTrue(holds(E, ("some", "X", ("and", PX, ("not", ("p", ("f", "X")))))))
        self.assertFalse(holds(E, ("all", "X", PX)))
        self.assertEqual(false_giving(E, [(True, PX)]), {"X": 1})

    def test_value(self):
        self.assertEqual(value(E, ("f", ("f", ("f", C))), {}), 1)
        self.assertEqual(value(E, ("f", "X"), {"X": 1, "Y": None, "Z": 9}), 0)
        self.assertEqual(value(E, "X", {"X": 1}), 1)
        self.assertEqual(value(E, ["f", ["c"]], {}), 1)
        self.assertEqual(value([2, E[1], {"p": [[0]]}], ["f", "X"], {"X": 0}), 1)

    def test_cases(self):
        yes, no = ("p", C), ("p", ("f", C))
        for head, told in (("and", (True, False, False, False)), ("or", (True, True, True, False)),
                           ("then", (True, False, True, True)), ("iff", (True, False, False, True))):
            rows = [(yes, yes), (yes, no), (no, yes), (no, no)]
            self.assertEqual(tuple([truth(E, (head, one, other), {}) for one, other in rows]), told)
        self.assertEqual((truth(E, ("not", yes), {}), truth(E, ("not", no), {})), (False, True))
        self.assertIs(truth(E, yes, {}), True)
        self.assertIs(truth(E, ("=", C, ("f", ("f", C))), {}), True)
        self.assertIs(truth(E, ("=", C, ("f", C)), {}), False)
        self.assertIs(truth(E, ("all", "X", ("some", "Y", ("=", ("f", "X"), "Y"))), {}), True)
        self.assertIs(truth(E, ("some", "Y", ("all", "X", ("=", ("f", "X"), "Y"))), {}), False)

    def test_shadowed(self):
        self.assertTrue(truth(E, ("some", "X", PX), {"X": 1}))
        self.assertFalse(truth(E, ("and", ("some", "X", PX), PX), {"X": 1}))
        self.assertTrue(holds(E, ("all", "X", ("or", PX, ("some", "X", PX)))))
        self.assertFalse(holds(E, ("some", "X", ("all", "X", PX))))

    def test_too_little_given(self):
        sentence = ("and", ("r", "Y", "X"), ("all", "Z", ("r", "Z", "B")))
        world = (2, {}, {"r": []})
        for giving, variable in (({}, "B"), ({"B": 0}, "X"), ({"B": 0, "X": 1}, "Y"), ({"B": 0, "X": 2, "Y": 0}, "X"),
                                 ({"B": True, "X": 1, "Y": 1}, "B"), ({"B": 0, "X": -1, "Y": 0}, "X"), ({"B": 0, "X": 1, "Y": None}, "Y"),
                                 ({"B": "0", "X": 9, "Y": None}, "B")):
            with self.assertRaises(BadGiving) as caught:
                truth(world, sentence, giving)
            self.assertEqual(caught.exception.variable, variable)
        self.assertFalse(truth(world, sentence, {"B": 0, "X": 1, "Y": 0, "Z": "any", "C": None}))
        for giving, variable in (({}, "X"), ({"X": 1}, "Y"), ({"X": 2, "Y": 2}, "X")):
            with self.assertRaises(BadGiving) as caught:
                value((2, {"g": {}}, {}), ("g", "Y", "X"), giving)
            self.assertEqual(caught.exception.variable, variable)
        with self.assertRaises(BadGiving) as caught:
            holds(E, ("or", ("p", C), ("all", "Y", ("or", PY, PX))))
        self.assertEqual(caught.exception.variable, "X")

    def test_against_slow_truth(self):
        chance = random.Random(20)
        for _ in range(300):
            world = some_world(chance, SMALL, chance.choice([1, 2, 3]))
            sentence = open_sentence(chance, 4)
            for giving in givings(["X", "Y", "V0"], world[0])[:4]:
                self.assertEqual(truth(world, sentence, giving), slow_truth(world, sentence, giving))
                self.assertEqual(truth(world, as_lists(sentence), {**giving, "W": 99}), slow_truth(world, sentence, giving))

    def test_nothing_is_changed(self):
        giving = {"X": 1}
        world = copy.deepcopy(E)
        truth(world, ("some", "X", ("all", "Y", ("iff", PX, PY))), giving)
        self.assertEqual((world, giving), (E, {"X": 1}))

    def test_first_false(self):
        yes, no = ("p", C), ("all", "X", PX)
        for axioms, name in (([], None), ([("b", yes)], None), ([("b", yes), ("z", no), ("a", no)], "z"), ([("a", no)], "a")):
            self.assertEqual(first_false(E, Theory(E_NAMES, axioms)), name)
        for thing in (None, [], E_NAMES):
            with self.assertRaises(BadTheory) as caught:
                first_false(E, thing)
            self.assertIs(caught.exception.thing, thing)

    def test_false_giving(self):
        world = (3, {"c": {(): 2}}, {"r": [(0, 0), (0, 1), (0, 2), (1, 0), (1, 2), (2, 0), (2, 1), (2, 2)], "q": []})
        self.assertEqual(false_giving(world, [(True, ("r", "Y", "X"))]), {"X": 1, "Y": 1})
        self.assertEqual(false_giving(world, [(False, ("r", "Y", "X"))]), {"X": 0, "Y": 0})
        self.assertEqual(false_giving(world, [(False, ("r", "B", "A")), (True, ("=", "A", C))]), {"A": 0, "B": 0})
        self.assertEqual(list(false_giving(world, [[False, ["r", "B", "A"]]])), ["A", "B"])
        self.assertEqual(false_giving(world, []), {})
        self.assertEqual(false_giving(world, [(True, ("q",))]), {})
        self.assertIsNone(false_giving(world, [(False, ("q",))]))
        self.assertIsNone(false_giving(world, [(True, ("=", "X", "X"))]))
        self.assertEqual(false_giving(world, [(True, ("=", "X", C))]), {"X": 0})

    def test_false_giving_is_the_first(self):
        chance = random.Random(21)
        for _ in range(200):
            world = some_world(chance, SMALL, chance.choice([1, 2, 3]))
            clause = some_clause(chance, SMALL, 3)
            variables = sorted(set(itertools.chain(*[free_in(atom) for _, atom in clause])))
            wrong = [giving for giving in givings(variables, world[0])
                     if not [1 for is_so, atom in clause if slow_truth(world, atom, giving) == is_so]]
            self.assertEqual(false_giving(world, clause), wrong[0] if wrong else None)
            if not wrong:
                words = some_substitution(chance, SMALL)
                self.assertIsNone(false_giving(world, instance_of(clause, words)))

    def test_at_the_limits(self):
        world = (8, {}, {"r": [(a, b) for a in range(8) for b in range(8)]})
        sentence = ("r", "X0", "X4")
        for k in range(5):
            sentence = ("all", f"X{k}", sentence)
        self.assertTrue(holds(world, sentence))
        deep = ("=", "X", "X")
        for _ in range(60):
            deep = ("all", "X", deep)
        self.assertTrue(holds((1, {}, {}), deep))
        self.assertEqual(names_apart(deep)[1], "V0")
        for _ in range(40):
            deep = ("not", deep)
        self.assertTrue(holds((1, {}, {}), normal(deep)))


class BindingTests(unittest.TestCase):
    def test_free_in(self):
        for sentence, free in ((PX, ["X"]), (("all", "X", PX), []), (("and", ("r", "Y", "B"), ("all", "Y", PY)), ["B", "Y"]),
                               (("some", "X", ("or", PX, ("all", "X", ("r", "X", "A1")))), ["A1"]), (("=", "Z", ("f", "B")), ["B", "Z"]),
                               (["not", ["p", "X"]], ["X"]), (("q",), []), (("iff", ("then", PY, PX), ("q",)), ["X", "Y"])):
            self.assertEqual(free_in(sentence), free)
        told = free_in(PX)
        told.append(None)
        self.assertEqual(free_in(PX), ["X"])

    def test_same_but_names(self):
        one = ("all", "X", ("some", "Y", ("r", "X", "Y")))
        for other, same in ((("all", "Y", ("some", "X", ("r", "Y", "X"))), True), (("all", "X", ("some", "X", ("r", "X", "X"))), False),
                            (("all", "Y", ("some", "X", ("r", "X", "Y"))), False), (("some", "X", ("all", "Y", ("r", "X", "Y"))), False),
                            (as_lists(one), True), (("all", "X", ("some", "Y", ("r", "X", "Z"))), False), (("q",), False)):
            self.assertEqual(same_but_names(one, other), same)
            self.assertEqual(same_but_names(other, one), same)
        self.assertTrue(same_but_names(("all", "X", ("r", "X", "V0")), ("all", "Z", ("r", "Z", "V0"))))
        self.assertFalse(same_but_names(("all", "X", ("r", "X", "V0")), ("all", "Z", ("r", "Z", "V1"))))
        self.assertFalse(same_but_names(PX, PY))
        self.assertTrue(same_but_names(PX, ["p", "X"]))
        self.assertFalse(same_but_names(("all", "X", PX), ("all", "X", PY)))
        self.assertFalse(same_but_names(("all", "X", PY), ("all", "Y", PY)))
        self.assertTrue(same_but_names(("all", "X", ("q",)), ("all", "Y", ("q",))))

    def test_names_apart(self):
        self.assertEqual(names_apart(("and", ("all", "X", ("some", "X", PX)), ("all", "Y", PY))),
                         ("and", ("all", "V0", ("some", "V1", ("p", "V1"))), ("all", "V2", ("p", "V2"))))
        self.assertEqual(names_apart(("all", "X", ("r", "X", "V0"))), ("all", "V1", ("r", "V1", "V0")))
        self.assertEqual(names_apart(("and", ("all", "V1", ("p", "V1")), ("all", "X", ("r", "V0", "V2")))),
                         ("and", ("all", "V1", ("p", "V1")), ("all", "V3", ("r", "V0", "V2"))))
        self.assertEqual(names_apart(("all", "X", ("and", PX, ("not", ("some", "X", ("r", "X", "Y")))))),
                         ("all", "V0", ("and", ("p", "V0"), ("not", ("some", "V1", ("r", "V1", "Y"))))))
        self.assertEqual(kinds(names_apart(["all", "X", ["p", ["f", "X"]]])), kinds(("all", "V0", ("p", ("f", "V0")))))

    def test_names_apart_holds_alike(self):
        chance = random.Random(22)
        for _ in range(150):
            sentence = open_sentence(chance, 4)
            told = names_apart(sentence)
            self.assertTrue(same_but_names(sentence, told))
            self.assertEqual(names_apart(told), told)
            self.assertEqual(free_in(told), free_in(sentence))
            self.alike(chance, sentence, told, lambda giving, world: giving)

    def alike(self, chance, one, other, turn):
        """Whether one is true by turned givings where the other is by givings, in some worlds."""
        for many in (1, 2):
            world = some_world(chance, SMALL, many)
            for giving in givings(["V0", "X", "Y"], many)[:6]:
                self.assertEqual(truth(world, one, turn(giving, world)), truth(world, other, giving), (one, other))

    def test_substituted(self):
        for sentence, words, told in (
                (("some", "Y", ("r", "X", "Y")), {"X": "Y"}, ("some", "V0", ("r", "Y", "V0"))),
                (("r", "X", "Y"), {"X": "Y", "Y": ["f", "X"]}, ("r", "Y", ("f", "X"))),
                (("all", "X", PX), {"X": C}, ("all", "X", PX)),
                (("and", PX, ("all", "X", PX)), {"X": C}, ("and", ("p", C), ("all", "X", PX))),
                # The word of a variable that is not free in the part goes, so nothing is called anew.
                (("all", "X", ("p", "X")), {"Y": "X"}, ("all", "X", PX)),
                (("all", "X", ("r", "X", "Y")), {"Y": "Z", "Z": "X"}, ("all", "X", ("r", "X", "Z"))),
                # V0 stands in the part, behind an all alone too; V1 stands in the words.
                (("all", "X", ("or", ("r", "X", "Y"), ("all", "V0", ("q",)))), {"Y": ("g", "X", "V1")},
                 ("all", "V2", ("or", ("r", "V2", ("g", "X", "V1")), ("all", "V0", ("q",))))),
                # From without inward: the new name is one more of the words within.
                (("all", "X", ("some", "V0", ("r", "X", ("g", "V0", "Y")))), {"Y": "X"},
                 ("all", "V1", ("some", "V0", ("r", "V1", ("g", "V0", "X"))))),
                (("all", "X", ("all", "Z", ("r", "X", ("g", "Z", "Y")))), {"Y": ("g", "X", "Z")},
                 ("all", "V0", ("all", "V1", ("r", "V0", ("g", "V1", ("g", "X", "Z")))))),
                (("all", "X", ("all", "X", ("r", "X", "Y"))), {"Y": "X"}, ("all", "V0", ("all", "V0", ("r", "V0", "X"))))):
            self.assertEqual(substituted(sentence, words), told)
            self.assertEqual(kinds(substituted(as_lists(sentence), as_lists(words))), kinds(told))

    def test_substituted_inner_names(self):
        """Within, the part is as it was passed, and the words are those that are left there."""
        sentence = ("all", "X", ("and", ("r", "X", "Y"), ("some", "Y", ("r", "Y", "X"))))
        self.assertEqual(substituted(sentence, {"Y": "X"}),
                         ("all", "V0", ("and", ("r", "V0", "X"), ("some", "Y", ("r", "Y", "V0")))))

    def test_substituted_means_the_words(self):
        chance = random.Random(23)
        for _ in range(300):
            sentence = open_sentence(chance, 4)
            words = {name: some_word(chance, SMALL, 2, ("X", "Y", "V0")) for name in ("X", "Y", "V0") if chance.random() < 0.7}
            before = copy.deepcopy((sentence, words))
            told = substituted(sentence, words)
            self.assertTrue(is_sentence(SMALL, told))
            self.assertEqual((sentence, words), before)
            self.alike(chance, sentence, told,
                       lambda giving, world: {**giving, **{name: value(world, words[name], giving) for name in words}})


class NormalTests(unittest.TestCase):
    def test_plain(self):
        a, b, c = ("a",), ("b",), ("d",)
        self.assertEqual(plain(("then", a, b)), ("or", ("not", a), b))
        self.assertEqual(plain(("iff", a, b)), ("and", ("or", ("not", a), b), ("or", ("not", b), a)))
        self.assertEqual(plain(("not", ("all", "X", ("then", ("not", a), ("then", b, c))))),
                         ("not", ("all", "X", ("or", ("not", ("not", a)), ("or", ("not", b), c)))))
        self.assertEqual(plain(("and", ("or", a, b), ("some", "X", ("=", "X", "X")))),
                         ("and", ("or", a, b), ("some", "X", ("=", "X", "X"))))
        inner = plain(("then", a, b))
        self.assertEqual(plain(["iff", ["then", ["a"], ["b"]], ["d"]]),
                         ("and", ("or", ("not", inner), c), ("or", ("not", c), inner)))

    def test_inward(self):
        a, b = ("a",), ("b",)
        for sentence, told in ((("not", ("not", a)), a), (("not", a), ("not", a)), (("not", ("and", a, b)), ("or", ("not", a), ("not", b))),
                               (("not", ("or", a, ("not", b))), ("and", ("not", a), b)), (("not", ("all", "X", PX)), ("some", "X", ("not", PX))),
                               (("not", ("some", "X", ("not", PX))), ("all", "X", PX)), (("not", ("not", ("not", a))), ("not", a)),
                               (("and", ("not", ("=", C, C)), a), ("and", ("not", ("=", C, C)), a)), (a, a),
                               (("all", "X", ("not", ("some", "Y", ("and", PX, ("not", PY))))),
                                ("all", "X", ("all", "Y", ("or", ("not", PX), PY))))):
            self.assertEqual(inward(sentence), told)
            self.assertEqual(kinds(inward(as_lists(sentence))), kinds(told))

    def test_normal_and_denied(self):
        sentence = ("all", "X", ("then", PX, ("some", "X", PX)))
        self.assertEqual(normal(sentence), ("all", "V0", ("or", ("not", ("p", "V0")), ("some", "V1", ("p", "V1")))))
        self.assertEqual(denied(sentence), ("some", "V0", ("and", ("p", "V0"), ("all", "V1", ("not", ("p", "V1"))))))
        self.assertEqual(normal(("iff", ("all", "X", PX), ("q",))),
                         ("and", ("or", ("some", "V0", ("not", ("p", "V0"))), ("q",)),
                          ("or", ("not", ("q",)), ("all", "V1", ("p", "V1")))))
        self.assertEqual(denied(["q"]), ("not", ("q",)))

    def atoms(self, sentence):
        if sentence[0] in ("not", "and", "or", "then", "iff"):
            return sum([self.atoms(part) for part in sentence[1:]])
        return self.atoms(sentence[2]) if sentence[0] in ("all", "some") else 1

    def iffs(self, sentence):
        if sentence[0] in ("not", "and", "or", "then", "iff"):
            return (sentence[0] == "iff") + max([self.iffs(part) for part in sentence[1:]])
        return self.iffs(sentence[2]) if sentence[0] in ("all", "some") else 0

    def has_form(self, sentence):
        """Whether it is an inward sentence."""
        if sentence[0] in ("and", "or"):
            return self.has_form(sentence[1]) and self.has_form(sentence[2])
        if sentence[0] in ("all", "some"):
            return self.has_form(sentence[2])
        return sentence[0] not in ("then", "iff") and (sentence[0] != "not" or sentence[1][0] in ("p", "q", "r", "="))

    def test_hold_alike(self):
        chance = random.Random(24)
        for _ in range(150):
            sentence = open_sentence(chance, 4)
            told = [plain(sentence), inward(plain(sentence)), normal(sentence)]
            self.assertTrue(self.has_form(told[1]) and self.has_form(told[2]) and self.has_form(denied(sentence)))
            self.assertEqual(told[2], names_apart(told[1]))
            most = self.atoms(sentence) * 2 ** self.iffs(sentence)
            for other in told:
                self.assertLessEqual(self.atoms(other), most)
                for many in (1, 2):
                    world = some_world(chance, SMALL, many)
                    for giving in givings(["V0", "X", "Y"], many)[:4]:
                        self.assertEqual(truth(world, other, giving), truth(world, sentence, giving))
                        self.assertEqual(truth(world, denied(sentence), giving), not truth(world, sentence, giving))

    def test_six_iffs_one_within_another(self):
        sentence = ("q",)
        for _ in range(6):
            sentence = ("iff", sentence, ("q",))
        self.assertLessEqual(self.atoms(plain(sentence)), 7 * 64)
        self.assertEqual(self.atoms(plain(sentence)), self.atoms(normal(sentence)))


if __name__ == "__main__":
    unittest.main()
