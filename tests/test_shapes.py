"""Turned worlds and listed worlds: [23], [24], [26]."""

import copy
import itertools
import random
import unittest

from eithershown.errors import BadNames, BadNumber, BadTurn
from eithershown.grammar import is_closed
from eithershown.listing import count_shapes, count_worlds, first_shape, world_at, world_number
from eithershown.meaning import holds, truth
from eithershown.shapes import telling, turn_between, turned
from eithershown.signatures import Names
from eithershown.worlds import world_fault
from tests.making import BARE, E, SMALL, THINGS, as_lists, kinds, rows_of, some_sentence, some_world

EXAMPLE = Names([("c", 0), ("f", 1)], [("p", 1)])
FEW = [Names([("c", 0)], [("p", 1)]), Names([], [("q", 0)]), Names([("f", 1)], []), Names([], [("r", 2)]),
       Names([("c", 0), ("d", 0)], [("p", 1), ("q", 0)]), BARE]


def plain_turned(world, turn):
    functions = {name: dict(sorted([(tuple([turn[k] for k in row]), turn[worth]) for row, worth in table.items()]))
                 for name, table in world[1].items()}
    return (world[0], functions, {name: sorted([tuple([turn[k] for k in row]) for row in rows])
                                  for name, rows in world[2].items()})


def plain_between(one, other):
    if one[0] != other[0]:
        return None
    wanted = plain_turned(other, list(range(other[0])))
    for turn in itertools.permutations(range(one[0])):
        if plain_turned(one, turn) == wanted:
            return list(turn)
    return None


def plain_worlds(names, many):
    """All worlds, in the order of the document."""
    tables = [[dict(zip(rows_of(many, arity), worths))
               for worths in itertools.product(range(many), repeat=many ** arity)] for _, arity in names.functions()]
    facts = [[[row for row, is_so in zip(rows_of(many, arity), truths) if is_so]
              for truths in itertools.product([0, 1], repeat=many ** arity)] for _, arity in names.predicates()]
    for made in itertools.product(*(tables + facts)):
        cut = len(tables)
        yield (many, {pair[0]: table for pair, table in zip(names.functions(), made[:cut])},
               {pair[0]: rows for pair, rows in zip(names.predicates(), made[cut:])})


def shuffled(chance, world):
    """The same world, its tables and rows in another order, lists for tuples."""
    functions = {name: {row: world[1][name][row] for row in list(world[1][name])[::-1]} for name in list(world[1])[::-1]}
    predicates = {}
    for name in list(world[2])[::-1]:
        rows = [list(row) for row in world[2][name]]
        chance.shuffle(rows)
        predicates[name] = tuple(rows)
    return [world[0], functions, predicates]


class TurnedTests(unittest.TestCase):
    def test_example(self):
        self.assertEqual(kinds(turned(E, [1, 0])), kinds((2, {"c": {(): 1}, "f": {(0,): 1, (1,): 0}}, {"p": [(1,)]})))
        self.assertEqual(kinds(turned(E, (0, 1))), kinds(E))
        self.assertEqual(turn_between(E, turned(E, [1, 0])), [1, 0])

    def test_turned_against_the_plain_way(self):
        chance = random.Random(1)
        for many in (1, 2, 3, 5):
            for _ in range(8):
                world = some_world(chance, SMALL, many)
                turn = chance.sample(range(many), many)
                kept = copy.deepcopy(world)
                told = turned(shuffled(chance, world), turn)
                self.assertEqual(kinds(told), kinds(plain_turned(world, turn)))
                self.assertEqual(world, kept)
                self.assertIsNone(world_fault(SMALL, told))

    def test_bad_turn(self):
        for thing in (None, [], [0], [0, 0], [1, 2], [0, 1, 2], "01", {0: 1, 1: 0}, [True, 0], [0, -1], [0, None], [[0], 1], 5, [0, 1, 1], (0, 1, 0)):
            with self.assertRaises(BadTurn) as caught:
                turned(E, thing)
            self.assertIs(caught.exception.thing, thing)

    def test_truth_is_the_same(self):
        chance = random.Random(2)
        for _ in range(60):
            world = some_world(chance, SMALL, 3)
            turn = chance.sample(range(3), 3)
            sentence = some_sentence(chance, SMALL, 3, ("X", "Y"), ("X", "Y", "V0"))
            giving = {"X": chance.randrange(3), "Y": chance.randrange(3)}
            self.assertEqual(truth(world, sentence, giving),
                             truth(turned(world, turn), sentence, {name: turn[giving[name]] for name in giving}))


class BetweenTests(unittest.TestCase):
    def test_the_first_turn_against_all(self):
        chance = random.Random(3)
        for names in FEW + [EXAMPLE, SMALL]:
            for many in (1, 2, 3, 4):
                for _ in range(6):
                    one, other = some_world(chance, names, many), some_world(chance, names, many)
                    self.assertEqual(turn_between(one, other), plain_between(one, other))
                    other = plain_turned(one, chance.sample(range(many), many))
                    told = turn_between(shuffled(chance, one), shuffled(chance, other))
                    self.assertEqual(kinds(told), kinds(plain_between(one, other)))

    def test_nearly_turned(self):
        chance = random.Random(4)
        for names in (EXAMPLE, SMALL, FEW[3]):
            for _ in range(30):
                one = some_world(chance, names, 4)
                other = copy.deepcopy(plain_turned(one, chance.sample(range(4), 4)))
                if other[1] and chance.random() < 0.5:
                    table = other[1][chance.choice(sorted(other[1]))]
                    table[chance.choice(sorted(table))] = chance.randrange(4)
                else:
                    name = chance.choice([name for name, arity in names.predicates() if arity > 0])
                    row = chance.choice([row for row in rows_of(4, dict(names.predicates())[name])])
                    rows = set(other[2][name]) ^ {row}
                    other[2][name] = sorted(rows)
                self.assertEqual(turn_between(one, other), plain_between(one, other))

    def test_other_many(self):
        self.assertIsNone(turn_between((1, {}, {"q": []}), (2, {}, {"q": []})))
        self.assertIsNone(turn_between((2, {}, {"q": []}), (2, {}, {"q": [()]})))
        self.assertEqual(turn_between((2, {}, {"q": [()]}), (2, {}, {"q": [()]})), [0, 1])

    def test_rings_of_eight_things(self):
        def ring(lot):
            return (8, {"f": {(one,): other for part in lot for one, other in zip(part, part[1:] + part[:1])}}, {})

        one = ring([[0, 7, 1, 6, 2, 5, 3, 4]])
        self.assertEqual(turn_between(one, ring([[0, 1, 2, 3, 4, 5, 6, 7]])), plain_between(one, ring([[0, 1, 2, 3, 4, 5, 6, 7]])))
        self.assertIsNone(turn_between(one, ring([[0, 1, 2, 3], [4, 5, 6, 7]])))

    def test_worlds_of_seven_and_eight_things(self):
        chance = random.Random(5)
        names = Names([("c", 0), ("f", 1), ("g", 2)], [("p", 1), ("r", 2), ("u", 4)])
        for many in (7, 8):
            one = some_world(chance, names, many)
            turn = chance.sample(range(many), many)
            other = plain_turned(one, turn)
            told = turn_between(one, other)
            self.assertEqual(plain_turned(one, told), plain_turned(other, list(range(many))))
            self.assertLessEqual(told, turn)
            other[2]["u"] = other[2]["u"][1:] + [row for row in rows_of(many, 4) if row not in other[2]["u"]][:1]
            self.assertIsNone(turn_between(one, other))
        alike = (8, {}, {"r": rows_of(8, 2)})
        self.assertEqual(turn_between(alike, alike), list(range(8)))


def depth_of_binding(sentence):
    if sentence[0] in ("all", "some"):
        return 1 + depth_of_binding(sentence[2])
    parts = [part for part in sentence[1:] if isinstance(part, tuple) and sentence[0] in ("not", "and", "or", "then", "iff")]
    return max([0] + [depth_of_binding(part) for part in parts])


class TellingTests(unittest.TestCase):
    def test_all_small_worlds(self):
        for names in FEW:
            worlds = [world for many in (1, 2) for world in plain_worlds(names, many)]
            worlds = worlds + [world for world in plain_worlds(names, 3)][:40]
            for one in worlds[:40]:
                sentence = telling(names, one)
                self.assertTrue(is_closed(names, sentence))
                self.assertLessEqual(depth_of_binding(sentence), one[0] + 2)
                for other in worlds:
                    self.assertEqual(holds(other, sentence), plain_between(one, other) is not None)

    def test_drawn_worlds(self):
        chance = random.Random(6)
        for many in (1, 2, 3, 4):
            one = some_world(chance, SMALL, many)
            sentence = telling(SMALL, one)
            self.assertEqual(telling(SMALL, shuffled(chance, one)), sentence)
            self.assertTrue(is_closed(SMALL, sentence))
            self.assertLessEqual(depth_of_binding(sentence), many + 2)
            for other in [some_world(chance, SMALL, more) for more in (1, 2, 3, 4, 5)] + \
                    [turned(one, chance.sample(range(many), many))]:
                self.assertEqual(holds(other, sentence), turn_between(one, other) is not None)

    def test_it_tells_the_names_alone(self):
        few = Names([], [("p", 1)])
        sentence = telling(few, E)
        self.assertTrue(is_closed(few, sentence))
        self.assertTrue(holds((2, {}, {"p": [(1,)]}), sentence))

    def test_bad_names(self):
        for thing in THINGS:
            if thing is not SMALL:
                with self.assertRaises(BadNames) as caught:
                    telling(thing, E)
                self.assertIs(caught.exception.thing, thing)


class ListingTests(unittest.TestCase):
    def test_example(self):
        self.assertEqual(count_worlds(EXAMPLE, 2), 32)
        self.assertEqual(count_shapes(EXAMPLE, 2), 16)

    def test_against_a_plain_listing(self):
        for names in FEW + [EXAMPLE]:
            for many in (1, 2, 3):
                if names is EXAMPLE and many == 3:
                    continue
                worlds = list(plain_worlds(names, many))
                self.assertEqual(count_worlds(names, many), len(worlds))
                shapes = []
                for number, world in enumerate(worlds[:25]):
                    self.assertEqual(kinds(world_at(names, many, number)), kinds(world))
                    self.assertEqual(world_number(names, as_lists(world)), number)
                    first = [shape for shape in worlds if plain_between(world, shape) is not None][0]
                    self.assertEqual(kinds(first_shape(names, world)), kinds(first))
                for world in worlds:
                    if not [shape for shape in shapes if plain_between(world, shape) is not None]:
                        shapes.append(world)
                self.assertEqual(count_shapes(names, many), len(shapes))

    def test_great_counts(self):
        names = Names([("c", 0), ("f", 1)], [("p", 1), ("q", 0), ("r", 2)])
        self.assertEqual(count_worlds(names, 4), 4 * 4 ** 4 * 2 ** 4 * 2 * 2 ** 16)
        chance = random.Random(7)
        for _ in range(40):
            number = chance.randrange(count_worlds(names, 4))
            world = world_at(names, 4, number)
            self.assertIsNone(world_fault(names, world))
            self.assertEqual(world_number(names, shuffled(chance, world)), number)
            shape = first_shape(names, shuffled(chance, world))
            self.assertIsNotNone(turn_between(world, shape))
            self.assertLessEqual(world_number(names, shape), number)
            turn = chance.sample(range(4), 4)
            self.assertEqual(first_shape(names, turned(world, turn)), shape)
        # The shapes of one relation of two places on four things, and of one function, are well known.
        self.assertEqual(count_shapes(Names([], [("r", 2)]), 4), 3044)
        self.assertEqual(count_shapes(Names([("f", 1)], []), 4), 19)
        self.assertEqual(count_shapes(Names([("g", 2)], []), 3), 3330)

    def test_a_world_with_more_names(self):
        self.assertEqual(world_number(Names([], [("p", 1)]), E), 2)
        self.assertEqual(kinds(first_shape(Names([], [("p", 1)]), E)), kinds((2, {}, {"p": [(1,)]})))

    def test_errors(self):
        for thing in (None, -1, 32, True, "0", [], 10 ** 30):
            with self.assertRaises(BadNumber) as caught:
                world_at(EXAMPLE, 2, thing)
            self.assertIs(caught.exception.thing, thing)
        for thing in (None, 5, [], ([], [])):
            for ask in (lambda bad: count_worlds(bad, 2), lambda bad: world_at(bad, 2, None), lambda bad: world_number(bad, E),
                        lambda bad: count_shapes(bad, 2), lambda bad: first_shape(bad, E)):
                with self.assertRaises(BadNames) as caught:
                    ask(thing)
                self.assertIs(caught.exception.thing, thing)

    def test_told_is_new(self):
        one = world_at(EXAMPLE, 2, 5)
        one[1]["c"][()] = 7
        one[2]["p"].append(None)
        self.assertIsNone(world_fault(EXAMPLE, world_at(EXAMPLE, 2, 5)))


if __name__ == "__main__":
    unittest.main()
