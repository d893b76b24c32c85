"""Words made alike and papers that show why not: [39], [40], and great words of [36] to [40]."""

import copy
import itertools
import random
import unittest

from eithershown.errors import BadPairs
from eithershown.puts import behind, match, match_fault, put
from eithershown.unifying import is_unify_paper, unify, unify_paper
from eithershown.words import depth, places, variables_of, word_at, word_put
from tests.making import SMALL, THINGS, as_lists, as_tuples, kinds, some_word

A, B = ("a",), ("b",)
EQUAL = ("=", "X", A)


def f(*words):
    return ("f",) + words


def g(*words):
    return ("g",) + words


def plain_unify(pairs):
    """Robinson's way, the greater variable giving way to the lesser one."""
    told = {}
    work = [tuple(pair) for pair in pairs]
    while work:
        one, other = [put(word, told) for word in work.pop(0)]
        if one == other:
            continue
        if isinstance(one, str) and isinstance(other, str):
            one, other = max(one, other), min(one, other)
        elif isinstance(other, str):
            one, other = other, one
        if not isinstance(one, str):
            if one[0] != other[0] or len(one) != len(other):
                return None
            work = list(zip(one[1:], other[1:])) + work
        elif one in variables_of(other):
            return None
        else:
            told = {variable: put(told[variable], {one: other}) for variable in told}
            told[one] = other
    return {variable: told[variable] for variable in sorted(told)}


def some_pairs(chance, depth_here, variables):
    return [tuple([some_word(chance, SMALL, depth_here, variables) for _ in range(2)])
            for _ in range(1 + chance.randrange(4))]


class UnifyTests(unittest.TestCase):
    def test_examples(self):
        self.assertEqual(unify([(f("X", "Y"), f("Y", g(A)))]), {"X": g(A), "Y": g(A)})
        self.assertEqual(unify([(f("Y"), f("X"))]), {"Y": "X"})
        self.assertEqual(unify([(f("X"), f("Y"))]), {"Y": "X"})
        self.assertIsNone(unify([("X", f("Y")), ("Y", f("X"))]))
        rows, end = unify_paper([("X", f("Y")), ("Y", f("X"))])
        self.assertTrue(is_unify_paper([("X", f("Y")), ("Y", f("X"))],
                                       ([("X", f("Y"), ("given", 0)), ("Y", f("X"), ("given", 1))], ("ring", [0, 1]))))
        self.assertEqual(end[0], "ring")
        self.assertEqual(match(f("X"), f(f("X"))), {"X": f("X")})

    def test_small_cases(self):
        self.assertEqual(unify([]), {})
        self.assertEqual(unify([("X", "X")]), {})
        self.assertEqual(unify([(A, A)]), {})
        self.assertEqual(unify([("X2", "X10"), ("X10", "B")]), {"X10": "B", "X2": "B"})
        self.assertIsNone(unify([(A, B)]))
        self.assertIsNone(unify([(f(A), f(A, A))]))
        self.assertIsNone(unify([("X", f("X"))]))
        self.assertIsNone(unify([("X", A), ("X", B)]))
        self.assertEqual(unify([(("=", "X", A), ("=", B, "Y"))]), {"X": B, "Y": A})
        self.assertIsNone(unify([(("=", "X", A), ("p", "X", A))]))
        self.assertIsNone(unify([(("=", "X", "X"), ("=", A, B))]))
        self.assertEqual(unify([(("p", "X"), ("p", A)), ("Y", f("X"))]), {"X": A, "Y": f(A)})

    def test_against_the_plain_way(self):
        chance = random.Random(1)
        found = 0
        for _ in range(2500):
            pairs = some_pairs(chance, chance.randrange(1, 4), ("X", "Y", "Z", "X1", "W"))
            kept = copy.deepcopy(pairs)
            told = unify(chance.choice([pairs, as_lists(pairs), as_tuples(pairs)]))
            self.assertEqual(pairs, kept)
            self.assertEqual(None if told is None else list(told.items()),
                             None if told is None else list(plain_unify(pairs).items()))
            self.assertEqual(told is None, plain_unify(pairs) is None)
            self.check_papers(pairs, told)
            found += told is not None
        self.assertGreater(found, 300)
        self.assertLess(found, 2200)

    def check_papers(self, pairs, told):
        paper = unify_paper(as_lists(pairs))
        self.assertEqual(paper is None, told is not None)
        self.assertEqual(paper, unify_paper(as_tuples(pairs)))
        if paper is not None:
            self.assertTrue(is_unify_paper(pairs, paper))
            self.assertTrue(is_unify_paper(as_lists(pairs), as_lists(paper)))
            self.assertTrue(is_unify_paper(as_tuples(pairs), as_tuples(paper)))
            self.check_kinds(paper)

    def check_kinds(self, paper):
        self.assertIsInstance(paper, tuple)
        self.assertIsInstance(paper[0], list)
        self.assertEqual(len(paper[0]), len({row[:2] for row in paper[0]}))
        for row in paper[0]:
            self.assertIsInstance(row, tuple)
            self.assertIsInstance(row[2], tuple)
        if paper[1][0] == "ring":
            self.assertIsInstance(paper[1][1], list)

    def test_it_is_most_general(self):
        """Any substitution that makes the pairs alike is the told one with something behind."""
        chance = random.Random(2)
        words = ["X", "Y", A, B, f("X"), f(A), g("X", "Y"), g(A, B), f(f(A))]
        for _ in range(150):
            pairs = some_pairs(chance, 2, ("X", "Y"))
            told = unify(pairs)
            variables = sorted({name for pair in pairs for word in pair for name in variables_of(word)})
            for made in itertools.product(words, repeat=len(variables)):
                other = dict(zip(variables, made))
                if all(put(one, other) == put(two, other) for one, two in pairs):
                    self.assertIsNotNone(told)
                    for variable in variables:
                        self.assertEqual(put(told.get(variable, variable), other), other[variable])

    def test_bad_pairs(self):
        good = ("X", A)
        for bad in (None, 5, "", "X", "XY", [], ("X",), ("X", A, A), ("X", None), (None, "X"), ("x", "X"), {"X": A},
                    ("X", ("f", None)), (("=", "X"), "X"), (("p", EQUAL), A),
                    (EQUAL, None), (None, EQUAL), (EQUAL, f(None)), (f(None), "X")):
            for ask in (unify, unify_paper, lambda pairs: is_unify_paper(pairs, None)):
                with self.assertRaises(BadPairs) as caught:
                    ask([good, bad, None])
                self.assertEqual(caught.exception.index, 1)
        for bad in (None, 5, "XY", {}, True):
            for ask in (unify, unify_paper, lambda pairs: is_unify_paper(pairs, None)):
                with self.assertRaises(BadPairs) as caught:
                    ask(bad)
                self.assertEqual(caught.exception.index, 0)


class PaperTests(unittest.TestCase):
    PAIRS = [(f("X", g("X")), f(g("Y"), g("Y"))), (A, "Z"), ("Z", B), ("X", "W"), (f(A), f("Z", A))]
    CLASH = ([(A, "Z", ("given", 1)), ("Z", B, ("given", 2)), (A, B, ("joined", 0, 1))], ("clash", 2))
    RING = ([(f("X", g("X")), f(g("Y"), g("Y")), ("given", 0)), ("X", g("Y"), ("part", 0, 0)), (g("X"), g("Y"), ("part", 0, 1)),
             ("X", "Y", ("part", 2, 0)), ("Y", "X", ("turned", 3)), ("Y", g("Y"), ("joined", 4, 1))], ("ring", [5]))

    def is_paper(self, thing):
        return is_unify_paper(self.PAIRS, thing)

    def test_right_ones(self):
        self.assertTrue(self.is_paper(self.CLASH))
        self.assertTrue(self.is_paper(self.RING))
        self.assertTrue(is_unify_paper([(f(A), f(A, A))], ([(f(A), f(A, A), ("given", 0))], ("clash", 0))))
        self.assertTrue(is_unify_paper([(A, B)], ([(A, B, ("given", 0)), (B, A, ("turned", 0))], ("clash", 1))))
        self.assertTrue(is_unify_paper([(EQUAL, ("=", B, B))], ([(EQUAL, ("=", B, B), ("given", 0)), ("X", B, ("part", 0, 0)),
                                                                 (A, B, ("part", 0, 1))], ("clash", 2))))
        self.assertTrue(is_unify_paper([("X", f("X"))], ([("X", f("X"), ("given", 0))], ("ring", [0, 0]))))
        self.assertTrue(is_unify_paper([("X", g("Y", f("X")))], ([("X", g("Y", f("X")), ("given", 0))], ("ring", [0]))))

    def test_any_object(self):
        for thing in THINGS:
            self.assertFalse(self.is_paper(thing))
            self.assertFalse(self.is_paper((thing, ("clash", 2))))
            self.assertFalse(self.is_paper((self.CLASH[0], thing)))
            for kind in ("clash", "ring"):
                if (kind, thing) != ("clash", 0):
                    self.assertFalse(is_unify_paper([(A, "X")], ([(A, "X", ("given", 0))], (kind, thing))))
            for at in range(3):
                rows = list(self.CLASH[0])
                self.assertFalse(self.is_paper((rows[:at] + [thing] + rows[at + 1:], self.CLASH[1])))
                for part in range(3):
                    row = rows[at][:part] + (thing,) + rows[at][part + 1:]
                    self.assertFalse(self.is_paper((rows[:at] + [row] + rows[at + 1:], self.CLASH[1])))

    def test_one_part_otherwise(self):
        for paper in (self.CLASH, self.RING):
            rows, end = paper
            for at, (one, other, reason) in enumerate(rows):
                wrongs = [("given", 4), ("given", 5), ("given", -1), ("given", True), ("given",), ("given", 0, 0), ("turned", at),
                          ("turned", 99), ("joined", 0, at), ("joined", 0), ("joined", 99, 0), ("joined", 0, 99), ("part", 0, 7), ("part", 0, 2), ("part", at, 0),
                          ("part", 0), ("part", 0, -1), ("same", 0), (), None, "given", reason[:1]]
                for wrong in wrongs:
                    self.assertFalse(self.is_paper((rows[:at] + [(one, other, wrong)] + rows[at + 1:], end)), wrong)
                for row in ((other, one, reason), (one, one, reason), (one, other), (one, other, reason, reason)):
                    self.assertFalse(self.is_paper((rows[:at] + [row] + rows[at + 1:], end)), row)

    def test_ends_otherwise(self):
        rows = self.CLASH[0]
        for end in (("clash", 0), ("clash", 1), ("clash", 3), ("clash", -1), ("clash", True), ("clash", [2]), ("clash", 2, 2),
                    ("clash",), ("ring", [2]), ("ring", []), ("ring", [0]), ("Clash", 2), None, 2):
            self.assertFalse(self.is_paper((rows, end)), end)
        rows = self.RING[0]
        for end in (("ring", []), ("ring", [0]), ("ring", [1]), ("ring", [3]), ("ring", [5, 1]), ("ring", [1, 5]), ("ring", [5, 9]), ("ring", [6]), ("ring", [3, 4]), ("ring", [0]), ("ring", [2, 5]), ("ring", 5),
                    ("ring", [True]), ("clash", 5), ("clash", 2), ("ring", [5], 1), ("ring", [-1])):
            self.assertFalse(self.is_paper((rows, end)), end)
        self.assertTrue(self.is_paper((rows, ("ring", (5, 5)))))
        self.assertFalse(self.is_paper(self.CLASH + (None,)))
        self.assertFalse(self.is_paper(([], ("clash", 0))))

    def test_joined_and_part_want_what_goes_together(self):
        pairs = [(A, "Z"), (B, "X"), (f(A), g(B)), (f(A), f(B, B)), ("X", f(B))]
        rows = [pair + (("given", at),) for at, pair in enumerate(pairs)]
        for row in ((A, "X", ("joined", 0, 1)), (A, B, ("part", 2, 0)), (A, B, ("part", 3, 0)), ("X", B, ("part", 4, 0)),
                    (A, "Z", ("joined", 0, 0))):
            self.assertFalse(is_unify_paper(pairs, (rows + [row], ("clash", 2))), row)
        self.assertTrue(is_unify_paper(pairs, (rows, ("clash", 2))))


def wide(many, variable):
    """A word of many names, thirty deep, a variable at its end."""
    word = variable
    for at in range(29):
        word = f(word) if at * 18 > many else g(word, *[A if k else "Z" for k in range(5)])
    return word


class GreatTests(unittest.TestCase):
    def names_of(self, word):
        return 0 if isinstance(word, str) else 1 + sum([self.names_of(part) for part in word[1:]])

    def test_words_of_five_hundred_names(self):
        chance = random.Random(5)
        for _ in range(20):
            word = self.great(chance, 500, 30)
            self.assertLessEqual(depth(word), 30)
            told = places(word)
            self.assertEqual(len(told), len(set(map(tuple, told))))
            for place in chance.sample(told, 10):
                self.assertEqual(word_put(word, place, word_at(word, place)), word)
            words = {variable: self.great(chance, 15, 3) for variable in variables_of(word)}
            done = put(word, words)
            self.assertEqual(match(word, done), words)
            self.assertIsNone(match_fault(word, done))
            self.assertEqual(put(word, behind(words, {"X": A})), put(done, {"X": A}))
            other = put(word, {variable: variable + "1" for variable in variables_of(word)})
            self.assertEqual(put(word, unify([(word, other)])), put(other, unify([(word, other)])))
            place = [at for at in chance.sample(told, 30) + [[]] if isinstance(word_at(word, at), tuple)][0]
            bad = word_put(word, place, ("z",) if word_at(word, place) != ("z",) else A)
            self.assertIsNone(unify([(bad, other)]))
            self.assertTrue(is_unify_paper([(bad, other)], unify_paper([(bad, other)])))

    def great(self, chance, many, deep):
        """A word of so many names."""
        if many <= 1 or deep == 0:
            return chance.choice([A, B, "X", "Y", "Z"]) if many != 1 else A
        parts = 1 if deep < 3 or chance.random() < 0.2 else 2 + chance.randrange(2)
        return ("fgh"[parts - 1],) + tuple([self.great(chance, (many - 1) // parts, deep - 1) for _ in range(parts)])

    def test_what_doubles(self):
        # What is put doubles ten times: f(X1, X1), f(X2, X2), ..
        pairs = [(f(f"X{at}", f"X{at}"), f(g(f"X{at + 1}", f"X{at + 1}"), f"X{at}")) for at in range(11)]
        told = unify(pairs + [("X11", A)])
        self.assertEqual(self.names_of(told["X0"]), 2 ** 12 - 1)
        self.assertEqual(list(told), sorted(told))
        for bad in (("X11", "X0"), ("X11", f("X3")), (g("X11", A), g(A, B))):
            paper = unify_paper(pairs + [bad])
            self.assertTrue(is_unify_paper(pairs + [bad], paper))
            self.assertIsNone(unify(pairs + [bad]))

    def test_words_that_would_be_huge_clash_soon(self):
        pairs = [(f"X{at}", g(f"X{at + 1}", f"X{at + 1}")) for at in range(80)] + \
                [(f"Y{at}", g(f"Y{at + 1}", f"Y{at + 1}")) for at in range(80)] + [("X0", "Y0"), ("X80", A), ("Y80", B)]
        paper = unify_paper(pairs)
        self.assertTrue(is_unify_paper(pairs, paper))
        self.assertIsNone(unify(pairs))
        self.assertLess(len(paper[0]), 3000)

    def test_long_rows_of_words(self):
        pairs = [(f"X{at}", f(f"X{at + 1}")) for at in range(90)]
        self.assertEqual(depth(unify(pairs)["X0"]), 90)
        ring = pairs + [("X90", f("X0"))]
        self.assertTrue(is_unify_paper(ring, unify_paper(ring)))
        deep = unify(pairs + [("X90", wide(500, "V"))])["X90"]
        self.assertEqual(deep, wide(500, "V"))
        alike = [(f"X{at}", f"X{at + 1}") for at in range(400)]
        self.assertEqual(set(unify(alike).values()), {"X0"})
        clash = alike + [("X0", A), ("X400", B)]
        self.assertTrue(is_unify_paper(clash, unify_paper(clash)))

    def test_told_is_new(self):
        pairs = [("X", f("Y")), ("Y", f("X"))]
        paper = unify_paper(pairs)
        paper[0].append(None)
        paper[1][1].append(None)
        self.assertTrue(is_unify_paper(pairs, unify_paper(pairs)))
        self.assertEqual(kinds(unify([("Y", ["f", "X"])])), kinds({"Y": f("X")}))


if __name__ == "__main__":
    unittest.main()
