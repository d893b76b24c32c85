"""Worlds and their texts: [13], [17], [25], [26]."""

import copy
import itertools
import random
import unittest

from eithershown.errors import BadNames, BadText, BadWorld
from eithershown.meaning import holds
from eithershown.signatures import Names
from eithershown.worlds import all_rows, forgotten, grown, world_fault
from eithershown.worldtexts import read_world, world_text, world_text_fault
from tests.making import BARE, E, SMALL, THINGS, as_lists, as_tuples, kinds, rows_of, some_sentence, some_world

E_NAMES = Names([("c", 0), ("f", 1)], [("p", 1)])
E_TEXT = "things 2\nc is 0\nf 0 is 1\nf 1 is 0\np 0\n"


def turned_about(thing):
    """The thing with its dicts the other way about."""
    if isinstance(thing, dict):
        return {key: turned_about(thing[key]) for key in list(thing)[::-1]}
    return thing


class WorldTests(unittest.TestCase):
    def test_rows(self):
        self.assertEqual(all_rows(3, 0), [()])
        self.assertEqual(all_rows(2, 2), [(0, 0), (0, 1), (1, 0), (1, 1)])
        self.assertEqual(all_rows(1, 6), [(0,) * 6])
        self.assertEqual(len(all_rows(4, 6)), 4096)
        for many in range(1, 5):
            for arity in range(4):
                rows = all_rows(many, arity)
                self.assertEqual(rows, sorted(itertools.product(range(many), repeat=arity)))
        self.assertEqual(kinds(all_rows(2, 1)), kinds([(0,), (1,)]))
        self.assertIsNot(all_rows(2, 1), all_rows(2, 1))

    def test_worlds(self):
        self.assertIsNone(world_fault(E_NAMES, E))
        self.assertIsNone(world_fault(E_NAMES, list(E)))
        self.assertIsNone(world_fault(E_NAMES, (2, turned_about(E[1]), {"p": ([1], [0])})))
        self.assertIsNone(world_fault(BARE, (7, {}, {})))
        self.assertIsNone(world_fault(BARE, (10 ** 12, {}, {})))
        self.assertIsNone(world_fault(Names([], [("q", 0)]), (1, {}, {"q": [()]})))
        self.assertIsNone(world_fault(Names([], [("q", 0)]), (1, {}, {"q": [[]]})))

    def test_no_triple(self):
        many, functions, predicates = E
        for thing in THINGS + ((many, functions), E + ({},), (0, functions, predicates), (True, functions, predicates),
                               (-1, functions, predicates), ("2", functions, predicates), (None, functions, predicates),
                               (many, None, predicates), (many, functions, []), (many, {}, predicates),
                               (many, functions, {}), (many, {**functions, "g": {}}, predicates),
                               (many, functions, {**predicates, "q": []}), (many, {"c": {(): 0}, "g": {}}, predicates),
                               (many, {"c": {(): 0}, None: {}}, predicates), (many, predicates, functions),
                               (many, functions, {1: []})):
            self.assertEqual(world_fault(E_NAMES, thing), ("form",), thing)

    def test_no_tables(self):
        many, functions, predicates = E
        for name, table in (("c", {}), ("c", {(): 2}), ("c", {(): True}), ("c", {(0,): 0}), ("c", {(): 0, (0,): 0}), ("c", None),
                            ("c", 0), ("c", {(): -1}), ("c", {(): None}), ("f", {(0,): 1}), ("f", {(0,): 1, (2,): 0}), ("f", {(0,): 1, 1: 0}),
                            ("f", {(0,): 1, (True,): 0}), ("f", {(0,): 1, (1,): 0, (2,): 0}), ("f", {(0,): 1, (1,): 2}),
                            ("f", {(0, 0): 1, (1, 1): 0}), ("f", [0, 1]), ("f", {"0": 1, "1": 0}), ("f", {(0,): 1, (1, 0): 0})):
            self.assertEqual(world_fault(E_NAMES, (many, {**functions, name: table}, predicates)), ("table", name), table)
        for rows in (None, {}, {(0,): True}, [0], [(2,)], [(0,), (0,)], [(0,), [0]], [(0, 0)], [()], [(True,)], [("0",)], "", [None],
                     [{0: 0}]):
            self.assertEqual(world_fault(E_NAMES, (many, functions, {"p": rows})), ("table", "p"), rows)

    def test_first_name(self):
        names = Names([("b", 0), ("z", 0)], [("a", 0), ("d", 0)])
        self.assertEqual(world_fault(names, (1, {"z": {}, "b": {}}, {"d": 0, "a": 0})), ("table", "b"))
        self.assertEqual(world_fault(names, (1, {"z": {}, "b": {(): 0}}, {"d": 0, "a": 0})), ("table", "z"))
        self.assertEqual(world_fault(names, (1, {"z": {(): 0}, "b": {(): 0}}, {"d": 0, "a": 0})), ("table", "a"))
        self.assertEqual(world_fault(names, (1, {"z": {(): 0}, "b": {(): 0}}, {"d": 0, "a": []})), ("table", "d"))

    def test_bad_names(self):
        for ask in (lambda names: world_fault(names, E), lambda names: forgotten(E, names), lambda names: world_text(names, None),
                    lambda names: read_world(names, None), lambda names: world_text_fault(names, None)):
            for thing in (None, [], "names", ([], [])):
                with self.assertRaises(BadNames) as caught:
                    ask(thing)
                self.assertIs(caught.exception.thing, thing)

    def test_fewer_and_more(self):
        chance = random.Random(9)
        fewer = Names([("g", 2)], [("r", 2), ("q", 0)])
        for many in (1, 2, 3):
            world = some_world(chance, SMALL, many)
            passed = (many, turned_about(world[1]), {name: as_lists(world[2][name])[::-1] for name in world[2]})
            before = copy.deepcopy(passed)
            told = forgotten(passed, fewer)
            self.assertEqual(kinds(told), kinds((many, {"g": world[1]["g"]}, {"q": world[2]["q"], "r": world[2]["r"]})))
            again = grown(told, {"f": passed[1]["f"], "c": passed[1]["c"]}, {"p": passed[2]["p"]})
            self.assertEqual(kinds(again), kinds(world))
            self.assertEqual(kinds(forgotten(passed, SMALL)), kinds(world))
            self.assertEqual(passed, before)
            again[1]["g"][(0, 0)] = None
            again[2]["r"].append(None)
            self.assertIsNone(world_fault(fewer, told))
            for _ in range(20):
                sentence = some_sentence(chance, fewer, 3, ())
                self.assertEqual(holds(told, sentence), holds(world, sentence))

    def test_grown_is_new(self):
        table = {(0,): 0}
        rows = [(0,)]
        told = grown((1, {}, {}), {"f": table}, {"p": rows})
        table[(0,)] = 5
        rows.clear()
        self.assertEqual(told, (1, {"f": {(0,): 0}}, {"p": [(0,)]}))


class WorldTextTests(unittest.TestCase):
    def test_there_and_back(self):
        self.assertEqual(world_text(E_NAMES, E), E_TEXT)
        self.assertEqual(read_world(E_NAMES, E_TEXT), E)
        self.assertEqual(kinds(read_world(E_NAMES, E_TEXT)), kinds(E))
        chance = random.Random(10)
        for many in (1, 2, 3, 9):
            world = some_world(chance, SMALL, many)
            text = world_text(SMALL, world)
            self.assertIsNone(world_text_fault(SMALL, text))
            self.assertEqual(kinds(read_world(SMALL, text)), kinds(world))
            first, *lines = text.split("\n")[:-1]
            chance.shuffle(lines)
            mixed = "\n".join([first] + lines) + "\n"
            self.assertEqual(kinds(read_world(SMALL, mixed)), kinds(world))
            self.assertEqual(world_text(SMALL, (many, turned_about(world[1]), as_tuples(world[2]))), text)

    def test_wrong_worlds(self):
        ten = (10, {"c": {(): 0}, "f": {(thing,): 0 for thing in range(10)}}, {"p": []})
        self.assertIsNone(world_fault(E_NAMES, ten))
        for thing in THINGS + (ten, (2, E[1], {"p": [(2,)]})):
            with self.assertRaises(BadWorld) as caught:
                world_text(E_NAMES, thing)
            self.assertIs(caught.exception.thing, thing)

    def test_first_wrong_signs(self):
        for text, fault in (("", (1, 1)), ("things 0", (1, 8)), ("things 10", (1, 9)), ("things 2", (1, 9)), ("things 2\n", (2, 1)),
                            (E_TEXT[:-1], (5, 4)), (E_TEXT + "p 1\n", None), (E_TEXT + "p 0", (6, 3)), (E_TEXT + "p 1\np", (7, 1)),
                            (E_TEXT + "c", (6, 1)), (E_TEXT + "f", (6, 1)), (E_TEXT + "\n", (6, 1)), (E_TEXT + "p 2", (6, 3)),
                            ("things 2\nc is 2", (2, 6)), ("things 2\nc  is", (2, 3)), ("things 2\nf 1 is 0\nf 1", (3, 3)),
                            ("things 2\nf 1 is 0\nf 0 is 0\n", (4, 1)), ("things 2\nf 1 is 0\nf 0 is 0\nc is 1\n", None),
                            ("things 2\np 1 is 0", (2, 4)), ("things 2\np 1 0", (2, 4)), ("things 2\nf 1\n", (2, 4)),
                            ("things 2\nd", (2, 1)), ("thing 2", (1, 6)), (None, (0, 0)), (5, (0, 0)), ([], (0, 0))):
            self.assertEqual(world_text_fault(E_NAMES, text), fault, text)
            if fault is not None:
                with self.assertRaises(BadText) as caught:
                    read_world(E_NAMES, text)
                self.assertEqual((caught.exception.line, caught.exception.sign), fault)

    def test_names_that_begin_alike(self):
        names = Names([("a", 0), ("ab", 0)], [("abc", 0), ("b", 0)])
        for text, fault in (("things 1\na is 0\na", (3, 2)), ("things 1\na is 0\na i", (3, 2)), ("things 1\nab is 0\nabc\nab", (4, 2)),
                            ("things 1\na is 0\nab is 0\nabc\na", (5, 1)), ("things 1\na is 0\nab is 0\nab", (4, 3)),
                            ("things 1\na is 0\nab is 0\nab\n", (4, 3)), ("things 1\nb\nb", (3, 1)),
                            ("things 1\nabc\nb\nab is 0\na is 0\n", None)):
            self.assertEqual(world_text_fault(names, text), fault or None, text)

    def test_against_all_texts(self):
        """All texts of a few small worlds: a sign is wrong if no text begins so."""
        names = Names([("c", 0)], [("p", 1), ("q", 0)])
        texts = {}
        for many in (1, 2):
            rows = [["c is " + str(thing)] for thing in range(many)]
            facts = [f"p {thing}" for thing in range(many)] + ["q"]
            for start in rows:
                for count in range(len(facts) + 1):
                    for some in itertools.combinations(facts, count):
                        for lines in itertools.permutations(start + list(some)):
                            texts["\n".join([f"things {many}"] + list(lines)) + "\n"] = True
        begins = {text[:at] for text in texts for at in range(len(text) + 1)}
        chance = random.Random(11)
        for text in sorted(texts):
            self.assertIsNone(world_text_fault(names, text))
            for _ in range(6):
                at = chance.randrange(8, len(text) + 1)
                sign = chance.choice(["", "c", "p", "q", " ", "0", "1", "2", "\n", "i"])
                wrong = text[:at] + sign + text[at + chance.randrange(2):]
                self.assertEqual(world_text_fault(names, wrong), self.expected(wrong, texts, begins), repr(wrong))

    def expected(self, text, texts, begins):
        line, sign = 1, 1
        for at in range(len(text)):
            if text[:at + 1] not in begins:
                return (line, sign)
            line, sign = (line + 1, 1) if text[at] == "\n" else (line, sign + 1)
        return None if text in texts else (line, sign)

    def test_all_rows_of_nine_things(self):
        names = Names([("f", 2)], [])
        text = "things 9\n" + "".join([f"f {a} {b} is 0\n" for a, b in rows_of(9, 2)])
        self.assertIsNone(world_text_fault(names, text))
        self.assertEqual(world_text_fault(names, text[:-11] + "f 8 7 is 0\n"), (82, 5))


if __name__ == "__main__":
    unittest.main()
