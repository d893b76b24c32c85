"""Places in words, substitutions and matching: [36], [37], [38]."""

import copy
import random
import unittest

from eithershown.errors import BadPlace, BadSubstitution, BadWord
from eithershown.puts import behind, match, match_fault, put
from eithershown.words import depth, places, variables_of, word_at, word_put
from tests.making import SMALL, as_lists, kinds, some_atom, some_substitution, some_word

C = ("c",)
WORD = ("g", ("f", "X"), ("g", C, "Y"))
NO_WORDS = (None, True, 5, "c", "x", "X Y", "", (), [], ("X",), ("f", "x"), ("not", C), ("abcdefghi",), (None,), ("f", None),
            ("f", ("=", C, C)), ("=", C), ("=", C, C, C), {}, ("f",) + (C,) * 7, ("=", C, ("=", C, C)))


class WordTests(unittest.TestCase):
    def test_places(self):
        self.assertEqual(places("X"), [[]])
        self.assertEqual(places(C), [[]])
        self.assertEqual(places(WORD), [[], [0], [0, 0], [1], [1, 0], [1, 1]])
        self.assertEqual(places(as_lists(WORD)), places(WORD))
        self.assertEqual(places(("=", C, ("f", "X"))), [[], [0], [1], [1, 0]])
        self.assertEqual(places(("p",) + ("X",) * 6)[-1], [5])
        told = places(WORD)
        told[1].append(7)
        self.assertEqual(told[2], [0, 0])
        self.assertEqual(places(WORD)[1], [0])

    def test_word_at(self):
        self.assertEqual([word_at(WORD, place) for place in places(WORD)], [WORD, ("f", "X"), "X", ("g", C, "Y"), C, "Y"])
        self.assertEqual(word_at(as_lists(WORD), (1,)), ("g", C, "Y"))
        self.assertEqual(kinds(word_at(as_lists(WORD), [1])), kinds(("g", C, "Y")))
        self.assertEqual(word_at(("=", C, "X"), [1]), "X")
        self.assertEqual(word_at(("=", C, "X"), []), ("=", C, "X"))

    def test_word_put(self):
        self.assertEqual(word_put(WORD, [0, 0], ["c"]), ("g", ("f", C), ("g", C, "Y")))
        self.assertEqual(word_put(as_lists(WORD), (1,), "Z"), ("g", ("f", "X"), "Z"))
        self.assertEqual(kinds(word_put(as_lists(WORD), [], as_lists(WORD))), kinds(WORD))
        self.assertEqual(word_put(("=", C, "X"), [1], C), ("=", C, C))
        self.assertEqual(word_put(C, [], ("=", C, C)), ("=", C, C))

    def test_depth_and_variables(self):
        for word, many in (("X", 0), (C, 0), (("f", "X"), 1), (WORD, 2), (("q",), 0), (("=", C, C), 1), (["f", ["f", ["f", "X"]]], 3)):
            self.assertEqual(depth(word), many)
        self.assertEqual(variables_of(("g", ("g", "Y", "X"), ("g", "X", "A"))), ["Y", "X", "A"])
        self.assertEqual(variables_of("X1"), ["X1"])
        self.assertEqual(variables_of(["=", ["c"], "X"]), ["X"])
        self.assertEqual(variables_of(C), [])

    def test_wrong_words(self):
        for ask in (places, depth, variables_of, lambda thing: word_at(thing, None), lambda thing: word_put(thing, None, None),
                    lambda thing: word_put(C, [], thing), lambda thing: put(thing, None), lambda thing: match(thing, None),
                    lambda thing: match(C, thing), lambda thing: match_fault(thing, None), lambda thing: match_fault(C, thing)):
            for thing in NO_WORDS:
                with self.assertRaises(BadWord) as caught:
                    ask(thing)
                self.assertIs(caught.exception.thing, thing)

    def test_wrong_places(self):
        for place in (None, 0, "0", {}, [2], [-1], [True], [0, 1], [0, 0, 0], ["0"], [None], [[0]], [0.5]):
            for ask in (lambda: word_at(WORD, place), lambda: word_put(WORD, place, None)):
                with self.assertRaises(BadPlace) as caught:
                    ask()
                self.assertIs(caught.exception.thing, place)
        for word in ("X", C):
            with self.assertRaises(BadPlace):
                word_at(word, [0])

    def test_an_equality_is_put_for_the_whole_alone(self):
        part = ("=", C, C)
        with self.assertRaises(BadWord) as caught:
            word_put(WORD, [0], part)
        self.assertIs(caught.exception.thing, part)

    def test_by_chance(self):
        chance = random.Random(12)
        for _ in range(100):
            word = some_word(chance, SMALL, 4, ("X", "Y"))
            told = places(word)
            self.assertEqual(told, sorted(told))
            for place in told:
                part = word_at(word, place)
                self.assertEqual(word_put(word, place, part), word)
                self.assertEqual(word_at(word_put(word, place, "Z"), place), "Z")
                self.assertLessEqual(depth(part) + len(place), depth(word))
            self.assertEqual(max(len(place) for place in told), depth(word))

    def test_at_the_limits(self):
        word = C
        for _ in range(30):
            word = ("f", word)
        self.assertEqual((depth(word), len(places(word))), (30, 31))
        for _ in range(70):
            word = ("f", word)
        self.assertEqual(depth(word), 100)
        self.assertEqual(put(word, {}), word)
        self.assertEqual(match(word, word), {})


class SubstitutionTests(unittest.TestCase):
    def test_put(self):
        self.assertEqual(put(("g", "X", "Y"), {"X": "Y", "Y": ["f", "X"]}), ("g", "Y", ("f", "X")))
        self.assertEqual(put("X", {"X": ["c"]}), C)
        self.assertEqual(put("X", {}), "X")
        self.assertEqual(put(["=", "X", ["c"]], {"X": "Z"}), ("=", "Z", C))
        self.assertEqual(kinds(put(as_lists(WORD), {"Z": "X"})), kinds(WORD))

    def test_behind(self):
        self.assertEqual(behind({"X": ("f", "Y")}, {"Y": C}), {"X": ("f", C), "Y": C})
        self.assertEqual(behind({"X": "Y"}, {"Y": "X"}), {"Y": "X"})
        self.assertEqual(behind({"X": "X"}, {"Z": "Z"}), {})
        self.assertEqual(list(behind({"Z": C, "B": C}, {"A": C, "M": C})), ["A", "B", "M", "Z"])
        self.assertEqual(behind({"X": ["f", "Y"]}, {"X": ["c"]}), {"X": ("f", "Y")})

    def test_behind_does_both(self):
        chance = random.Random(13)
        for _ in range(200):
            first, later = some_substitution(chance, SMALL), some_substitution(chance, SMALL)
            before = copy.deepcopy((first, later))
            both = behind(first, later)
            self.assertEqual((first, later), before)
            self.assertEqual(list(both), sorted(both))
            self.assertFalse([name for name in both if both[name] == name])
            for _ in range(5):
                word = some_word(chance, SMALL, 3, ("X", "Y", "Z12", "B"))
                self.assertEqual(put(word, both), put(put(word, first), later))
                self.assertEqual(put(as_lists(word), as_lists(both)), put(word, both))

    def test_wrong_substitutions(self):
        for thing in (None, [], (), "X", 5, {"x": C}, {"X": "c"}, {"X": None}, {1: C}, {None: C}, {"X": C, "Y": ("=", C, C)},
                      {("X",): C}, [("X", C)]):
            for ask in (lambda: put(C, thing), lambda: behind(thing, None), lambda: behind({}, thing)):
                with self.assertRaises(BadSubstitution) as caught:
                    ask()
                self.assertIs(caught.exception.thing, thing)
        with self.assertRaises(BadWord):
            put(None, None)

    def test_match(self):
        self.assertEqual(match(("f", "X"), ("f", ("f", "X"))), {"X": ("f", "X")})
        self.assertEqual(match(("g", "Y", "X"), ["g", ["c"], "Y"]), {"X": "Y", "Y": C})
        self.assertEqual(list(match(("g", "Y", "X"), ["g", ["c"], "Y"])), ["X", "Y"])
        self.assertEqual(match("X", "X"), {"X": "X"})
        self.assertEqual(match(("g", "X", "X"), ("g", C, C)), {"X": C})
        self.assertEqual(match(("=", "X", C), ("=", "Y", C)), {"X": "Y"})
        self.assertEqual(match(C, C), {})
        for pattern, word in ((C, ("d",)), (C, "X"), (("f", "X"), C), (("f", "X"), ("f", "X", "X")), (("g", "X", "X"), ("g", C, "X")),
                              (("f", C), ("f", "X"))):
            self.assertIsNone(match(pattern, word))

    def test_match_fault(self):
        for pattern, word, fault in ((("g", "X", "X"), ("g", C, ("f", C)), ("twice", [0], [1])), (C, "X", ("clash", [])),
                                     (("g", "X", ("f", "Y")), ("g", C, C), ("clash", [1])),
                                     (("g", ("f", "X"), ("g", C, "X")), ("g", ("f", C), ("g", C, "Y")), ("twice", [0, 0], [1, 1])),
                                     (("g", ("g", "X", "X"), C), ("g", ("g", C, "Y"), "Z"), ("twice", [0, 0], [0, 1])),
                                     (("g", ("g", "X", C), "X"), ("g", ("g", C, "Y"), "Z"), ("clash", [0, 1])),
                                     (("f", "X"), ("f", "X", "X"), ("clash", [])), (("p", C), ("=", C, C), ("clash", []))):
            self.assertEqual(match_fault(pattern, word), fault)
            self.assertEqual(kinds(match_fault(as_lists(pattern), as_lists(word))), kinds(fault))

    def test_just_one(self):
        chance = random.Random(14)
        matched = 0
        for _ in range(600):
            pattern = some_word(chance, SMALL, 2, ("X", "Y"))
            if chance.random() < 0.5:
                word = put(pattern, some_substitution(chance, SMALL))
            else:
                word = some_word(chance, SMALL, 3, ("X", "Y"))
            told, fault = match(pattern, word), match_fault(pattern, word)
            self.assertEqual(told is None, fault is not None)
            if told is not None:
                matched += 1
                self.assertEqual(put(pattern, told), word)
                self.assertEqual(sorted(variables_of(pattern)), list(told))
            elif fault[0] == "clash":
                one, other = word_at(pattern, fault[1]), word_at(word, fault[1])
                self.assertFalse(isinstance(one, str))
                self.assertTrue(isinstance(other, str) or (one[0], len(one)) != (other[0], len(other)))
            else:
                self.assertEqual(word_at(pattern, fault[1]), word_at(pattern, fault[2]))
                self.assertNotEqual(word_at(word, fault[1]), word_at(word, fault[2]))
                self.assertLess(fault[1], fault[2])
        self.assertGreater(matched, 100)

    def test_atoms_match(self):
        chance = random.Random(15)
        for _ in range(100):
            atom = some_atom(chance, SMALL, ("X", "Y"))
            words = {"X": some_word(chance, SMALL, 2, ("Y",)), "Y": C}
            self.assertEqual(put(atom, match(atom, put(atom, words))), put(atom, words))


if __name__ == "__main__":
    unittest.main()
