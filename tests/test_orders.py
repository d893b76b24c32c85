"""Orders of words: [41]."""

import random
import unittest

from eithershown.errors import BadOrder, BadRows, BadWord, NotOrdered
from eithershown.orders import Order, compare
from eithershown.puts import put
from eithershown.words import places, variables_of, word_at, word_put
from tests.making import SMALL, THINGS, as_lists, kinds, some_word

A, B, C = ("a",), ("b",), ("c",)
EXAMPLE = Order([("a", 1), ("b", 1), ("f", 1)])
ORDER = Order([("c", 1), ("f", 1), ("g", 2), ("p", 1), ("q", 3), ("r", 1)])
TURNED = {"above": "below", "below": "above", "same": "same", "none": "none"}


def f(*words):
    return ("f",) + words


def g(*words):
    return ("g",) + words


def flat(word):
    return [word_at(word, place) for place in places(word)]


def plain_above(rows, one, other):
    """The document's words, one by one."""
    weights, names = dict(rows), [name for name, _ in rows]

    def weight(word):
        return sum([1 if isinstance(part, str) else weights[part[0]] for part in flat(word)])

    for variable in variables_of(other):
        if flat(one).count(variable) < flat(other).count(variable):
            return False
    if weight(one) != weight(other):
        return weight(one) > weight(other)
    if isinstance(one, str) or isinstance(other, str):
        return False
    if one[0] != other[0]:
        return names.index(one[0]) > names.index(other[0])
    unlike = [(left, right) for left, right in zip(one[1:], other[1:]) if left != right]
    return bool(unlike) and plain_above(rows, *unlike[0])


class OrderTests(unittest.TestCase):
    def test_rows(self):
        rows = [["b", 2], ("a", 10 ** 9)]
        order = Order(rows)
        rows[0][1] = 7
        rows.append(("c", 1))
        self.assertEqual(kinds(order.rows()), kinds([("b", 2), ("a", 10 ** 9)]))
        order.rows().append(None)
        self.assertEqual(order.rows(), [("b", 2), ("a", 10 ** 9)])
        self.assertEqual(Order([]).rows(), [])

    def test_equal(self):
        self.assertTrue(Order([("a", 1), ("b", 2)]) == Order((["a", 1], ["b", 2])))
        self.assertFalse(Order([("a", 1), ("b", 2)]) == Order([("b", 2), ("a", 1)]))
        self.assertFalse(Order([("a", 1)]) == Order([("a", 2)]))
        self.assertFalse(Order([("a", 1)]) == Order([("a", 1), ("b", 1)]))
        for thing in THINGS + ([("a", 1)],):
            self.assertFalse(Order([("a", 1)]) == thing)
            self.assertTrue(Order([("a", 1)]) != thing)

    def test_bad_rows(self):
        for bad in (None, 5, "", "ab", [], ("b",), ("b", 1, 1), ("b", 0), ("b", -1), ("b", True), ("b", "1"), ("B", 1), ("not", 1),
                    ("=", 1), (5, 1), ("a", 2), ("b", None), {"b": 1}):
            with self.assertRaises(BadRows) as caught:
                Order([("a", 1), bad, None])
            self.assertEqual(caught.exception.index, 1, bad)
        for bad in (None, 5, "ab", {}, {"a": 1}):
            with self.assertRaises(BadRows) as caught:
                Order(bad)
            self.assertEqual(caught.exception.index, 0)


class CompareTests(unittest.TestCase):
    def both(self, order, one, other, told):
        self.assertEqual(compare(order, one, other), told)
        self.assertEqual(compare(order, as_lists(other), as_lists(one)), TURNED[told])

    def test_example(self):
        self.both(EXAMPLE, f("X"), "X", "above")
        self.both(EXAMPLE, B, A, "above")
        self.both(EXAMPLE, "X", A, "none")

    def test_each_case(self):
        self.both(ORDER, f("X"), f("X"), "same")
        self.both(ORDER, "X", "X", "same")
        self.both(ORDER, "X", "Y", "none")
        self.both(ORDER, f(C), C, "above")
        self.both(ORDER, f("X"), "Y", "none")
        self.both(ORDER, g(C, C), f(f(C)), "above")
        # As heavy: by names, then by the first words that are unlike.
        self.both(ORDER, g(C, C), f(f(f(C))), "above")
        self.both(ORDER, g(f("X"), "Y"), g("X", f("Y")), "above")
        self.both(ORDER, g("X", "Y"), g("Y", "X"), "none")
        self.both(ORDER, g(C, f("X")), g(C, "X"), "above")
        self.both(ORDER, g("X", f(C)), g(C, f("X")), "none")
        self.both(ORDER, g(f(C), "X"), g(C, f("X")), "above")
        # A variable that stands more often bars.
        self.both(ORDER, g(C, C), f("X"), "none")
        self.both(ORDER, g("X", C), g("X", "X"), "none")
        self.both(ORDER, g("X", "X"), f("X"), "above")
        self.both(ORDER, f(f(f(f("X")))), g("X", "X"), "none")
        # Atoms too.
        self.both(ORDER, ("p", C), ("r", C, C), "below")
        self.both(ORDER, ("q",), ("r", C, C), "below")
        self.both(ORDER, ("p", "X"), f("X"), "above")
        self.both(ORDER, ("q",), ("p", "X"), "none")
        self.both(ORDER, ("q",), ("p", C), "above")
        # The weight comes ahead of the name, the name ahead of the words.
        heavy = Order([("c", 5), ("d", 1), ("f", 1), ("g", 1)])
        self.both(heavy, C, f(("d",)), "above")
        self.both(heavy, f(C), g(("d",), ("d",)), "above")
        self.both(heavy, f(C), ("g", C), "below")
        self.both(heavy, C, "X", "none")

    def test_against_the_words_of_the_document(self):
        chance = random.Random(1)
        seen = {}
        for _ in range(4000):
            rows = [(name, chance.randrange(1, 4)) for name in chance.sample(["c", "f", "g"], 3)]
            one, other = [some_word(chance, SMALL, 3, ("X", "Y")[:chance.randrange(3)]) for _ in range(2)]
            told = compare(Order(rows), one, other)
            above, below = plain_above(rows, one, other), plain_above(rows, other, one)
            self.assertFalse(above and below)
            self.assertEqual(told, "same" if one == other else "above" if above else "below" if below else "none")
            seen[told] = seen.get(told, 0) + 1
        self.assertGreater(min([seen.get(word, 0) for word in TURNED]), 100)

    def test_it_holds(self):
        chance = random.Random(2)
        order = ORDER
        for _ in range(1500):
            one, other, third = [some_word(chance, SMALL, 3, ("X", "Y")) for _ in range(3)]
            if compare(order, one, other) == "above":
                words = {name: some_word(chance, SMALL, 2, ("X", "Y")) for name in ("X", "Y")}
                self.assertEqual(compare(order, put(one, words), put(other, words)), "above")
                around = some_word(chance, SMALL, 2, ("X",))
                place = chance.choice(places(around))
                self.assertEqual(compare(order, word_put(around, place, one), word_put(around, place, other)), "above")
                if compare(order, other, third) == "above":
                    self.assertEqual(compare(order, one, third), "above")
            for place in places(one)[1:]:
                self.assertEqual(compare(order, one, word_at(one, place)), "above")
            ground = [put(word, {"X": C, "Y": f(C)}) for word in (one, other)]
            self.assertNotEqual(compare(order, *ground), "none")

    def test_great_words(self):
        word = "X"
        for at in range(29):
            word = g(word, *[C for _ in range(1)]) if at < 20 else f(word)
        self.both(ORDER, f(word), word, "above")
        self.both(ORDER, word, put(word, {"X": C}), "none")

    def test_errors_in_order(self):
        for thing in THINGS + ([("a", 1)],):
            with self.assertRaises(BadOrder) as caught:
                compare(thing, None, None)
            self.assertIs(caught.exception.thing, thing)
        for thing in (None, 5, "c", (), ("X",), ("f", None), {}, ("=", C), ("p", ("=", C, C))):
            with self.assertRaises(BadWord) as caught:
                compare(ORDER, thing, None)
            self.assertIs(caught.exception.thing, thing)
            with self.assertRaises(BadWord) as caught:
                compare(ORDER, C, thing)
            self.assertIs(caught.exception.thing, thing)

    def test_not_ordered(self):
        for one, other, name in ((f(("x",), ("y",)), ("z",), "x"), (("y", ("x",)), ("z",), "y"), (f(f(("x",)), ("y",)), C, "x"),
                                 (C, g("X", ("y", ("z",))), "y"), (("=", ("x",), C), C, "="), (C, ("=", C, C), "="),
                                 (("x",), ("x",), "x")):
            with self.assertRaises(NotOrdered) as caught:
                compare(ORDER, one, other)
            self.assertEqual(caught.exception.name, name)


if __name__ == "__main__":
    unittest.main()
