"""Tables that worlds give, tables that are full, and their worlds: [59], [60]."""

import copy
import random
import unittest

from eithershown.errors import BadBound, BadDepth, BadTable, Crowded, NotFull, NoWorld
from eithershown.fulltables import is_full, table_of, world_of
from eithershown.groundwords import symbols_of
from eithershown.instancing import instances
from eithershown.levels import level
from eithershown.meaning import false_giving, value
from eithershown.signatures import Names
from eithershown.splitting import table_fault
from eithershown.steps import instance_of
from eithershown.words import depth
from eithershown.worlds import all_rows, world_fault
from tests.making import as_lists, as_tuples, kinds, some_clause, some_world
from tests.test_ground import A, B, C, EXAMPLE, Q, Case, all_words, equal, f, g, no, p, yes

LOOPED = [yes(equal(f("X1"), "X1")), yes(p(A))]
NAMES = Names([("a", 0), ("b", 0), ("f", 1)], [("p", 1), ("q", 0), ("r", 2)])
SOME = (2, {"a": {(): 1}, "b": {(): 0}, "f": {(0,): 1, (1,): 1}}, {"p": [(1,)], "q": [()], "r": [(0, 1)]})


def ground_of(clauses, deep):
    whole = clauses if ("k1", 0) not in symbols_of(clauses) else clauses + [yes(equal(("k1",), ("k1",)))]
    return [instance_of(whole[index], words) for index, words in instances(clauses, deep, 10 ** 6)]


def plainly_full(clauses, deep, table):
    """Fullness as the document words it."""
    words = [word for lot in table[0] for word in lot]
    homes = {word: at for at, lot in enumerate(table[0]) for word in lot}
    for lot in table[0]:
        if not any(depth(word) <= deep for word in lot):
            return False
    for name, arity in symbols_of(clauses):
        for row in all_rows(len(table[0]), arity):
            if not any(word[0] == name and tuple(homes[part] for part in word[1:]) == row for word in words):
                return False
    return True


class TableTests(Case):
    def test_the_example(self):
        told = level(LOOPED, 0, 500)
        self.assertEqual(told, ("table", ([[A, f(A)]], [("p", [0])])))
        self.assertIs(is_full(LOOPED, 0, 500, told[1]), True)
        self.assertEqual(kinds(world_of(LOOPED, 0, 500, told[1])), kinds((1, {"a": {(): 0}, "f": {(0,): 0}}, {"p": [(0,)]})))
        table = level(EXAMPLE, 0, 500)[1]
        self.assertIs(is_full(EXAMPLE, 0, 500, table), False)
        with self.assertRaises(NotFull):
            world_of(EXAMPLE, 0, 500, table)

    def test_table_of(self):
        clauses = [no(p("X")) + yes(("q",)), yes(("r", B, f("X")))]
        told = table_of(clauses, 1, 50, SOME)
        self.assertEqual(kinds(told), kinds(([[B], [f(B), f(f(B))]], [("p", [1]), ("q", []), ("r", [0, 1])])))
        self.assertIsNone(table_fault(ground_of(clauses, 1), told))
        self.assertEqual(kinds(table_of(as_lists(clauses), 1, 50, [2, SOME[1], as_lists(SOME[2])])), kinds(told))

    def test_k1(self):
        """Where no constant stands k1 is 0, unless the world tells what it is."""
        clauses = [yes(p(f("X"))), yes(("r", "X", "Y")) + no(("r", "X", "Y"))]
        table = ([[f(("k1",)), ("k1",)]], [("p", [0])])
        world = (2, {"f": {(0,): 0, (1,): 1}}, {"p": [(0,), (1,)], "r": [(1, 1)]})
        self.assertEqual(table_of(clauses, 0, 50, world), table)
        more = (2, {**world[1], "k1": {(): 1}}, world[2])
        self.assertEqual(table_of(clauses, 0, 50, more), (table[0], table[1] + [("r", [0, 0])]))
        self.assertEqual(sorted(world[1]), ["f"])
        self.assertEqual(table_of([], 0, 1, (1, {}, {})), ([[("k1",)]], []))
        self.assertEqual(world_of([], 0, 1, ([[("k1",)]], [])), (1, {"k1": {(): 0}}, {}))
        taken = [yes(("k1", "X"))]
        self.assertEqual(table_of(taken, 0, 5, (1, {}, {"k1": [(0,)]})), ([[("k2",)]], [("k1", [0])]))
        both = [yes(p(("k1",)))]
        with self.assertRaises(NoWorld):
            table_of(both, 0, 5, (2, {"k1": {(): 1}}, {"p": [(0,)]}))

    def test_no_world(self):
        world = (2, SOME[1], {**SOME[2], "q": []})
        clauses = [yes(p(A)), no(p("X")) + yes(Q)]
        with self.assertRaises(NoWorld) as caught:
            table_of(clauses, 0, 50, world)
        self.assertIs(caught.exception.world, world)
        # A clause that holds for all words may fail for a thing that no word names.
        with self.assertRaises(NoWorld):
            table_of([yes(p("X")), yes(p(A))], 3, 50, (2, {"a": {(): 0}}, {"p": [(0,)]}))
        self.caught(BadDepth, lambda thing: table_of(clauses, thing, None, world), -1)
        self.caught(BadBound, lambda thing: table_of(clauses, 0, thing, world), True)
        with self.assertRaises(Crowded) as crowd:
            table_of(clauses, 0, 1, world)
        self.assertEqual(crowd.exception.many, 2)

    def test_errors(self):
        good = level(LOOPED, 0, 500)[1]
        for ask in (is_full, world_of):
            self.check_clause_errors(lambda thing, ask=ask: ask(thing, None, None, None))
            for bad in (None, -1, True, "0", []):
                self.caught(BadDepth, lambda thing, ask=ask: ask(LOOPED, thing, None, None), bad)
                self.caught(BadBound, lambda thing, ask=ask: ask(LOOPED, 0, thing, None), bad)
            with self.assertRaises(Crowded) as crowd:
                ask(LOOPED, 0, 1, None)
            self.assertEqual(crowd.exception.many, 2)
            for table, fault in ((None, ("form",)), (([[A]], good[1]), ("words",)), (([[A], [f(A)]], []), ("clause", 0)),
                                 (([[A, f(A)]], []), ("clause", 1)), (([[A, f(A)]], [("p", [1])]), ("facts",))):
                with self.assertRaises(BadTable) as caught:
                    ask(LOOPED, 0, 500, table)
                self.assertEqual(caught.exception.fault, fault)
        self.check_clause_errors(lambda thing: table_of(thing, None, None, None))

    def test_classes_in_any_order(self):
        """Numbers of classes are those of the classes as they stand."""
        clauses = [yes(p(A)), no(p(B)), yes(equal(C, B)), yes(("r", A, "X"))]
        table = [[[C, B], [A]], [["r", [1, 0]], ["p", [1]], ["r", [1, 1]], ["p", [1]]]]
        kept = copy.deepcopy(table)
        for told in (table, as_tuples(table), as_lists(table)):
            self.assertIs(is_full(clauses, 0, 9, told), True)
            self.assertEqual(kinds(world_of(clauses, 0, 9, told)),
                             kinds((2, {"a": {(): 1}, "b": {(): 0}, "c": {(): 0}}, {"p": [(1,)], "r": [(1, 0), (1, 1)]})))
        self.assertEqual(table, kept)

    def test_full_or_not(self):
        """A class without a shallow word, or a row of classes without a word, bars a table."""
        deep = [yes(p(f(A))), yes(equal(f(f(A)), A))]
        apart = ([[A, f(f(A))], [f(A)]], [("p", [1])])
        self.assertIsNone(table_fault(deep, apart))
        self.assertIs(is_full(deep, 0, 9, apart), False)
        self.assertIs(is_full(deep, 1, 9, apart), True)
        self.assertEqual(world_of(deep, 1, 9, apart)[1]["f"], {(0,): 1, (1,): 0})
        pairs = [yes(p(g(A, B)))]
        self.assertIs(is_full(pairs, 1, 9, ([[A, B, g(A, B)]], [("p", [0])])), True)
        self.assertIs(is_full(pairs, 1, 9, ([[A, g(A, B)], [B]], [("p", [0])])), False)
        # Many classes and places: the rows are too many to go through.
        many = [yes(p(("h",) + tuple((f"c{at}",) for at in range(6))))] + [yes(p((f"c{at}",))) for at in range(60)]
        told = level(many, 0, 99)[1]
        self.assertIs(is_full(many, 0, 99, told), False)

    def test_drawn(self):
        chance = random.Random(5)
        full = 0
        for _ in range(250):
            clauses = [some_clause(chance, NAMES, 3) for _ in range(chance.randrange(1, 4))]
            deep = chance.randrange(2)
            kind, told = level(clauses, deep, 10 ** 5)
            if kind == "table":
                self.assertEqual(is_full(clauses, deep, 10 ** 5, told), plainly_full(clauses, deep, told))
            if kind == "table" and is_full(clauses, deep, 10 ** 5, told):
                full += 1
                world = world_of(clauses, deep, 10 ** 5, told)
                functions = sorted(world[1])
                self.assertEqual(functions, sorted(dict(symbols_of(clauses))))
                for clause in clauses:
                    self.assertIsNone(false_giving(world, clause))
                for word in all_words(ground_of(clauses, deep)):
                    self.assertIn(word, told[0][value(world, word, {})])
                self.assertEqual(table_of(clauses, deep, 10 ** 5, world), told)
                again = world_of(as_lists(clauses), deep, 10 ** 5, as_tuples(told))
                self.assertEqual(kinds(again), kinds(world))
                self.assertIsNot(again[1], world[1])
        self.assertGreater(full, 40)

    def test_constants_alone(self):
        """Without functions but constants each table of depth 0 is full."""
        chance = random.Random(6)
        names = Names([("a", 0), ("b", 0)], [("p", 1), ("q", 0)])
        for _ in range(150):
            clauses = [some_clause(chance, names, 3) for _ in range(chance.randrange(1, 5))]
            kind, told = level(clauses, 0, 10 ** 5)
            if kind == "table":
                world = world_of(clauses, 0, 10 ** 5, told)
                self.assertLessEqual(world[0], len(symbols_of(clauses)))
                self.assertTrue(all(false_giving(world, clause) is None for clause in clauses))

    def test_worlds_against_tables(self):
        """Each world gives a table, so that what clashes has none."""
        chance = random.Random(7)
        found = 0
        for _ in range(400):
            clauses = [some_clause(chance, NAMES, 3) for _ in range(2)]
            world = some_world(chance, NAMES, chance.randrange(1, 4))
            self.assertIsNone(world_fault(NAMES, world))
            if all(false_giving(world, clause) is None for clause in clauses):
                found += 1
                kept = copy.deepcopy(world)
                told = table_of(clauses, 1, 10 ** 5, world)
                self.assertEqual(world, kept)
                self.assertIsNone(table_fault(ground_of(clauses, 1), told))
                self.assertEqual(level(clauses, 1, 10 ** 5)[0], "table")
        self.assertGreater(found, 50)


if __name__ == "__main__":
    unittest.main()
