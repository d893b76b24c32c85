"""Trees, worlds of so many things, bounds of size, worlds cut down, made one, with twins, counted: [61] to [69]."""

import copy
import itertools
import random
import unittest

from eithershown.bounds import kind_of, one_place_bound, size_bound
from eithershown.clausenames import names_of
from eithershown.errors import BadMany, BadNumber, BadSentences, BadThing, BadWorld
from eithershown.howmany import how_many, world_there
from eithershown.listing import count_worlds, world_at
from eithershown.meaning import false_giving, holds
from eithershown.searching import least_size, world_sized
from eithershown.shrinking import cut_down, merged, twin
from eithershown.signatures import Names
from eithershown.trees import tree_fault, tree_size
from eithershown.worlds import world_fault
from tests.making import THINGS, as_lists, as_tuples, kinds, some_clause, some_sentence, some_tree, some_world
from tests.test_ground import A, B, C, Q, Case, equal, f, g, no, p, yes

EXAMPLE = [yes(p(C)), no(p(f("X")))]
LEAF = ("clash", 1, {"X": 0})
EXAMPLE_TREE = ("cell", "c", [], [("cell", "p", [0], [("clash", 0, {}), ("cell", "f", [0], [LEAF])])])
DRAWN = Names([("c", 0), ("d", 0), ("f", 1)], [("p", 1), ("q", 0), ("r", 2)])


def names_in(clauses):
    told = names_of(clauses)
    return Names(list(told.functions.items()), list(told.predicates.items()))


def plain_worlds(clauses, many):
    """All worlds in which all clauses hold, in the order of their numbers."""
    names = names_in(clauses)
    worlds = [world_at(names, many, number) for number in range(count_worlds(names, many))]
    return [world for world in worlds if all(false_giving(world, clause) is None for clause in clauses)]


def plain_worth(way, word, giving):
    """What the cells on the way tell of a word, "none" if they do not."""
    if isinstance(word, str):
        return giving[word]
    row = tuple(plain_worth(way, part, giving) for part in word[1:])
    return "none" if "none" in row else dict(way).get((word[0], row), "none")


def plain_fault(clauses, many, tree, way, path):
    """The first fault of a tree, as the document words it, calling itself for each tree."""
    names = names_of(clauses)
    if isinstance(tree, (list, tuple)) and len(tree) == 3 and tree[0] == "clash":
        _, index, giving = tree
        if isinstance(index, bool) or not isinstance(index, int) or not 0 <= index < len(clauses) or not isinstance(giving, dict):
            return path, "clause"
        variables = {letter for _, atom in clauses[index] for word in atom[1:] for letter in letters(word)}
        if set(giving) != variables or any(isinstance(thing, bool) or thing not in range(many) for thing in giving.values()):
            return path, "clause"
        truths = []
        for is_so, atom in clauses[index]:
            if atom[0] == "=":
                pair = [plain_worth(way, word, giving) for word in atom[1:]]
                truths.append((is_so, "none" if "none" in pair else pair[0] == pair[1]))
            else:
                truths.append((is_so, plain_worth(way, atom, giving)))
        if "none" in [truth for _, truth in truths]:
            return path, "untold"
        return (path, "true") if any(is_so == truth for is_so, truth in truths) else None
    if not (isinstance(tree, (list, tuple)) and len(tree) == 4 and tree[0] == "cell" and isinstance(tree[2], (list, tuple))
            and isinstance(tree[3], (list, tuple))):
        return path, "form"
    _, name, row, trees = tree
    arity = {**names.functions, **names.predicates}.get(name if isinstance(name, str) else None)
    if arity != len(row) or any(isinstance(thing, bool) or thing not in range(many) for thing in row) or (name, tuple(row)) in dict(way):
        return path, "cell"
    stood = [thing for (_, cells), worth in way for thing in list(cells) + ([] if isinstance(worth, bool) else [worth])] + list(row)
    worths = [False, True] if name in names.predicates else list(range(min(many, max(stood) + 2 if stood else 1)))
    if len(trees) != len(worths):
        return path, "branches"
    for index, worth in enumerate(worths):
        fault = plain_fault(clauses, many, trees[index], way + [((name, tuple(row)), worth)], path + [index])
        if fault is not None:
            return fault
    return None


def letters(word):
    return [word] if isinstance(word, str) else [letter for part in word[1:] for letter in letters(part)]


def parts_of(tree):
    return 1 + (sum(parts_of(part) for part in tree[3]) if tree[0] == "cell" else 0)


class SizedCase(Case):
    def check_sized_errors(self, ask):
        self.check_clause_errors(lambda thing: ask(thing, None))
        for bad in (None, 0, -1, True, "1", [1], 1.5):
            self.caught(BadMany, lambda thing: ask(EXAMPLE, thing), bad)


class TreeTests(SizedCase):
    def test_the_example(self):
        self.assertIsNone(tree_fault(EXAMPLE, 1, EXAMPLE_TREE))
        self.assertIsNone(tree_fault(as_lists(EXAMPLE), 1, as_lists(EXAMPLE_TREE)))
        self.assertIsNone(tree_fault(as_tuples(EXAMPLE), 1, as_tuples(EXAMPLE_TREE)))
        self.assertEqual(tree_size(EXAMPLE_TREE), 5)
        self.assertEqual(tree_size(as_lists(EXAMPLE_TREE)), 5)
        self.assertEqual(kinds(tree_fault(EXAMPLE, 2, EXAMPLE_TREE)), kinds(([0, 1], "branches")))
        self.assertEqual(tree_fault(EXAMPLE[:1], 1, EXAMPLE_TREE), ([0, 1], "cell"))
        self.assertEqual(tree_size(LEAF), 1)

    def test_each_fault(self):
        def inside(part):
            return ("cell", "c", [], [("cell", "p", [0], [("clash", 0, {}), part])])

        for bad, why in (
                (None, "form"), ((), "form"), ("clash", "form"), (("clash",), "form"), (("clash", 0), "form"),
                (("clash", 0, {}, 0), "form"), (("cell", "f", [0]), "form"), (("cell", "f", [0], [LEAF], 0), "form"),
                (("cell", "f", 0, [LEAF]), "form"), (("cell", "f", [0], {}), "form"), (("size", 0, {}), "form"), ((["clash"], 0, {}), "form"), (("size", "f", [0], [LEAF]), "form"),
                (("cell", "h", [0], [LEAF]), "cell"), (("cell", None, [0], [LEAF]), "cell"), (("cell", ["f"], [0], [LEAF]), "cell"),
                (("cell", "f", [], [LEAF]), "cell"), (("cell", "f", [0, 0], [LEAF]), "cell"), (("cell", "f", [1], [LEAF]), "cell"),
                (("cell", "f", [False], [LEAF]), "cell"), (("cell", "f", [-1], [LEAF]), "cell"), (("cell", "f", ["0"], [LEAF]), "cell"),
                (("cell", "=", [0, 0], [LEAF, LEAF]), "cell"), (("cell", "p", [0], [LEAF, LEAF]), "cell"), (("cell", "c", [], []), "cell"),
                (("cell", "f", [0], []), "branches"), (("cell", "f", [0], [LEAF, LEAF]), "branches"),
                (("clash", 2, {}), "clause"), (("clash", -1, {}), "clause"), (("clash", True, {}), "clause"), (("clash", None, {}), "clause"),
                (("clash", 1, {}), "clause"), (("clash", 1, {"X": 1}), "clause"), (("clash", 1, {"X": False}), "clause"),
                (("clash", 1, {"X": 0, "Y": 0}), "clause"), (("clash", 1, {"Y": 0}), "clause"), (("clash", 1, [("X", 0)]), "clause"), (("clash", 1, ["X"]), "clause"), (("clash", 1, "X"), "clause"), (("clash", 1, None), "clause"),
                (("clash", 0, {"X": 0}), "clause"), (("clash", 1, {"X": [0]}), "clause"),
                (LEAF, "untold"), (("clash", 0, {}), "true")):
            self.assertEqual(kinds(tree_fault(EXAMPLE, 1, inside(bad))), kinds(([0, 1], why)), bad)
            self.assertEqual(tree_fault(EXAMPLE, 1, as_lists(inside(bad))), ([0, 1], why), bad)
        for thing in THINGS:
            self.assertEqual(tree_fault(EXAMPLE, 1, thing), ([], "form"))

    def test_which_fault_is_first(self):
        """Above ahead of below, each tree ahead of the next one with all that is in it."""
        broken = ("cell", "c", [], [("cell", "p", [0], [None, None])])
        self.assertEqual(tree_fault(EXAMPLE, 1, broken), ([0, 0], "form"))
        deep = ("cell", "p", [0], [("cell", "c", [], [None]), ("cell", "c", [], [])])
        self.assertEqual(tree_fault(EXAMPLE, 1, deep), ([0, 0], "form"))
        self.assertEqual(tree_fault(EXAMPLE, 1, ("cell", "p", [0], [("clash", 0, {}), ("clash", 5, {})])), ([0], "untold"))
        self.assertEqual(tree_fault(EXAMPLE, 1, ("cell", "q", [], [None])), ([], "cell"))
        self.assertEqual(tree_fault(EXAMPLE, 1, ("cell", "c", [], [None, None])), ([], "branches"))
        self.assertEqual(tree_fault(EXAMPLE, 1, ("cell", "c", 0, [])), ([], "form"))
        # A literal that asks what is not told comes ahead of one that is true.
        clauses = [yes(p(A), ("q",))]
        tree = ("cell", "q", [], [("clash", 0, {}), ("clash", 0, {})])
        self.assertEqual(tree_fault(clauses, 1, tree), ([0], "untold"))
        self.assertEqual(tree_fault([yes(Q, p(A))], 1, ("cell", "q", [], [("cell", "a", [], [("cell", "p", [0], [("clash", 0, {})] * 2)])] * 2)), ([0, 0, 1], "true"))

    def test_how_many_trees_are_due(self):
        clauses = [no(equal("X", "X")), yes(equal(f("X"), A), equal(g("X", "Y"), B), ("p", "X"))]
        end = ("clash", 0, {"X": 0})
        for many, row, due in ((5, [0], 2), (5, [1], 3), (5, [3], 5), (5, [4], 5), (2, [1], 2), (1, [0], 1)):
            for told in range(7):
                fault = tree_fault(clauses, many, ("cell", "f", row, [end] * told))
                self.assertEqual(fault, None if told == due else ([], "branches"), (many, row, told))
        self.assertIsNone(tree_fault(clauses, 5, ("cell", "a", [], [end])))
        self.assertEqual(tree_fault(clauses, 5, ("cell", "a", [], [end] * 2)), ([], "branches"))
        self.assertIsNone(tree_fault(clauses, 5, ("cell", "p", [3], [end, ("cell", "a", [], [end] * 5)])))
        self.assertIsNone(tree_fault(clauses, 5, ("cell", "p", [1], [end, ("cell", "a", [], [end] * 3)])))
        # True is no thing: behind a predicate's cell without places no thing stands on the way.
        more = clauses + [yes(Q)]
        self.assertIsNone(tree_fault(more, 5, ("cell", "q", [], [end, ("cell", "a", [], [end])])))
        # Rows of functions' cells count, whatever their values are.
        self.assertIsNone(tree_fault(clauses, 5, ("cell", "f", [2], [("cell", "a", [], [end] * 4), end, end, end])))
        # Values on the way count, those of other trees do not.
        two = ("cell", "a", [], [("cell", "b", [], [end, ("cell", "f", [0], [end] * 3)])])
        self.assertIsNone(tree_fault(clauses, 5, two))
        self.assertIsNone(tree_fault(clauses, 5, ("cell", "a", [], [("cell", "b", [], [("cell", "f", [0], [end] * 2), end])])))

    def test_equalities_and_given_things(self):
        """Things that are given are told; both sides of = are asked."""
        clauses = [no(equal(A, "X")), yes(equal(f(A), A))]
        self.assertIsNone(tree_fault(clauses, 2, ("cell", "a", [], [("clash", 0, {"X": 0})])))
        self.assertEqual(tree_fault(clauses, 2, ("cell", "a", [], [("clash", 0, {"X": 1})])), ([0], "true"))
        self.assertEqual(tree_fault(clauses, 2, ("clash", 0, {"X": 1})), ([], "untold"))
        asked = ("cell", "a", [], [("cell", "f", [0], [("clash", 0, {"X": 0}), ("clash", 1, {})])])
        self.assertIsNone(tree_fault(clauses, 2, asked))
        self.assertEqual(tree_fault(clauses, 2, ("cell", "a", [], [("clash", 1, {})])), ([0], "untold"))
        self.assertEqual(tree_fault([no(equal(A, A))], 2, ("clash", 0, {})), ([], "untold"))
        self.assertIsNone(tree_fault([[]], 1, ("clash", 0, {})))

    def test_errors(self):
        self.check_sized_errors(lambda clauses, many: tree_fault(clauses, many, None))
        self.check_sized_errors(world_sized)
        self.check_sized_errors(least_size)
        self.check_sized_errors(how_many)
        self.check_sized_errors(lambda clauses, many: world_there(clauses, many, None))

    def test_drawn_trees(self):
        """Against the plain way, of trees drawn and of right ones in which something is exchanged."""
        chance = random.Random(3)
        met = {}
        for _ in range(300):
            clauses = [some_clause(chance, DRAWN, 2) for _ in range(chance.randrange(2, 7))]
            many = chance.randrange(1, 4)
            kind, tree = world_sized(clauses, many)
            trees = [some_tree(chance, DRAWN, 3)]
            if kind == "tree":
                trees.extend([changed(chance, tree, clauses, many) for _ in range(12)])
            for thing in trees:
                fault = tree_fault(clauses, many, thing)
                plain = plain_fault(clauses, many, thing, [], [])
                self.assertEqual(fault, plain, (clauses, many, thing))
                met[None if fault is None else fault[1]] = True
        self.assertEqual(len(met), 7)


def changed(chance, tree, clauses, many):
    """A tree with something at one of its places exchanged."""
    if tree[0] == "cell" and tree[3] and chance.random() < 0.75:
        at = chance.randrange(len(tree[3]))
        return tree[:3] + (tree[3][:at] + [changed(chance, tree[3][at], clauses, many)] + tree[3][at + 1:],)
    choice = chance.randrange(6)
    if tree[0] == "clash":
        return [("clash", chance.randrange(len(clauses) + 1), tree[2]), ("clash", tree[1], {name: chance.randrange(many) for name in tree[2]}),
                ("clash", tree[1], {}), tree[:2], tree, ("cell", "c", [], [tree])][choice]
    return [tree[:3] + (tree[3][:-1],), tree[:3] + (tree[3] + [tree[3][0]],), ("cell", tree[1], [chance.randrange(many) for _ in tree[2]], tree[3]),
            ("cell", chance.choice(["c", "p", "f", "zz"]), tree[2], tree[3]), tree[3][0], tree[:3] + (tree[3][::-1],)][choice]


class SearchTests(SizedCase):
    def check(self, clauses, many, told):
        kind, found = told
        if kind == "tree":
            self.assertIsNone(tree_fault(clauses, many, found))
            self.assertEqual(tree_size(found), parts_of(found))
        else:
            self.assertEqual(kind, "world")
            self.assertEqual(found[0], many)
            self.assertIsNone(world_fault(names_in(clauses), found))
            self.assertTrue(all(false_giving(found, clause) is None for clause in clauses), (clauses, found))
        return kind

    def test_the_example(self):
        kind, tree = world_sized(EXAMPLE, 1)
        self.assertEqual(self.check(EXAMPLE, 1, (kind, tree)), "tree")
        kind, world = world_sized(EXAMPLE, 2)
        self.assertEqual(world, (2, {"c": {(): 0}, "f": {(0,): 1, (1,): 1}}, {"p": [(0,)]}))
        self.assertEqual(kinds(least_size(EXAMPLE, 4)), kinds(("world", 2, world)))
        told = least_size(EXAMPLE, 1)
        self.assertEqual(kinds(told), kinds(("trees", [tree])))

    def test_small_ones(self):
        self.assertEqual(world_sized([], 3), ("world", (3, {}, {})))
        self.assertEqual(world_sized([[]], 3), ("tree", ("clash", 0, {})))
        self.assertEqual(world_sized([yes(Q), []], 1), ("tree", ("clash", 1, {})))
        self.assertEqual(kinds(world_sized([yes(equal("X", "Y"))], 2)), kinds(("tree", ("clash", 0, {"X": 0, "Y": 1}))))
        self.assertEqual(kinds(world_sized([yes(equal("Y", "X"))], 2)), kinds(("tree", ("clash", 0, {"X": 0, "Y": 1}))))
        self.assertEqual(world_sized([yes(equal("X", "Y"))], 1), ("world", (1, {}, {})))
        self.assertEqual(world_sized([yes(equal("X", C)), no(p(C)) + yes(p(("d",)))], 1)[0], "world")
        self.assertEqual(least_size([yes(equal("X", C)), no(p(C)) + yes(p(("d",)))], 5)[:2], ("world", 1))
        told = least_size([no(equal("X", "X"))], 3)
        self.assertEqual(kinds(told), kinds(("trees", [("clash", 0, {"X": 0})] * 3)))
        self.assertIsNot(told[1][0][2], told[1][1][2])
        self.assertEqual(self.check([yes(Q), no(Q)], 4, world_sized([yes(Q), no(Q)], 4)), "tree")

    def test_drawn(self):
        """Just one of a world and a tree, held against all worlds."""
        chance = random.Random(4)
        met = {"world": 0, "tree": 0}
        for _ in range(500):
            clauses = [some_clause(chance, DRAWN, 3) for _ in range(chance.randrange(1, 7))]
            for many in (1, 2, 3):
                names = names_in(clauses)
                if count_worlds(names, many) < 600:
                    kind = self.check(clauses, many, world_sized(clauses, many))
                    self.assertEqual(kind == "world", len(plain_worlds(clauses, many)) > 0)
                    met[kind] += 1
        self.assertGreater(min(met.values()), 100)

    def test_told_alike_and_new(self):
        chance = random.Random(9)
        for _ in range(60):
            clauses = [some_clause(chance, DRAWN, 3) for _ in range(chance.randrange(1, 7))]
            kept = copy.deepcopy(clauses)
            first = world_sized(clauses, 2)
            world_sized(clauses, 3)
            again = world_sized(as_lists(clauses), 2)
            self.assertEqual(kinds(first), kinds(again))
            self.assertEqual(kinds(first), kinds(world_sized(as_tuples(clauses), 2)))
            self.assertIsNot(first[1][-1], again[1][-1])
            self.assertEqual(clauses, kept)
            if first[0] == "tree":
                self.assertEqual(len(lists_in(first[1])), len({id(part) for part in lists_in(first[1])}))

    def test_at_the_limits(self):
        """Sixty cells; five things, eight where functions have no place."""
        group = [yes(equal(g("X", g("Y", "Z")), g(g("X", "Y"), "Z"))), yes(equal(g(C, "X"), "X")), yes(equal(g(f("X"), "X"), C))]
        for many in (1, 2, 3, 4, 5):
            self.assertEqual(self.check(group, many, world_sized(group, many)), "world")
            bent = group + [no(equal(g(A, B), g(B, A)))]
            self.assertEqual(self.check(bent, many, world_sized(bent, many)), "tree")
        constants = [(f"c{at}",) for at in range(8)]
        unlike = [no(equal(one, other)) for one, other in itertools.combinations(constants, 2)]
        self.assertEqual(self.check(unlike, 7, world_sized(unlike, 7)), "tree")
        self.assertEqual(self.check(unlike, 8, world_sized(unlike, 8)), "world")
        colours = [yes(("r", "X", "Y"), equal("X", "Y")), no(("r", "X", "X")), yes(*[(name, "X") for name in "pqs"])]
        colours.extend([no(("r", "X", "Y"), (name, "X"), (name, "Y")) for name in "pqs"])
        for many in range(1, 9):
            self.assertEqual(self.check(colours, many, world_sized(colours, many)), "world" if many < 4 else "tree")
        endless = [yes(("r", "X", f("X"))), no(("r", "X", "Y"), ("r", "Y", "Z")) + yes(("r", "X", "Z")), no(("r", "X", "X"))]
        told = least_size(endless, 5)
        self.assertEqual(told[0], "trees")
        for at, tree in enumerate(told[1]):
            self.assertEqual(self.check(endless, at + 1, ("tree", tree)), "tree")
        self.assertEqual(len(told[1]), 5)

    def test_many_clauses(self):
        chance = random.Random(11)
        names = Names([("c", 0), ("d", 0)], [(f"p{at}", 1) for at in range(7)])
        clauses = []
        while len(clauses) < 30:
            clause = some_clause(chance, names, 6)
            if len(clause) > 3 and "Z12" not in str(clause):
                clauses.append(clause)
        self.check(clauses, 8, world_sized(clauses, 8))

    def test_deep_search(self):
        """More cells than calls may go within one another."""
        clauses = [yes((f"p{at}", "X")) for at in range(40)] + [no((f"p{at}", "X")) + yes((f"p{at + 1}", "Y")) for at in range(39)]
        self.assertEqual(self.check(clauses, 8, world_sized(clauses, 8)), "world")
        chained = [yes(("p0", A))] + [no((f"p{at}", "X")) + yes((f"p{at + 1}", f("X"))) for at in range(160)] + [no(("p160", "X"))]
        self.assertEqual(self.check(chained, 2, world_sized(chained, 2)), "tree")

    def test_greater_worlds(self):
        """Where no = stands there is a world of each size above the least one."""
        chance = random.Random(12)
        for _ in range(80):
            clauses = [[literal for literal in some_clause(chance, DRAWN, 3) if literal[1][0] != "="] for _ in range(4)]
            told = least_size(clauses, 2)
            if told[0] == "world":
                for many in range(told[1], 4):
                    self.assertEqual(self.check(clauses, many, world_sized(clauses, many)), "world")


def lists_in(thing):
    """All lists and dicts in it."""
    told = [thing] if isinstance(thing, (list, dict)) else []
    if isinstance(thing, (list, tuple)):
        for part in thing:
            told.extend(lists_in(part))
    return told


class BoundTests(SizedCase):
    def test_kinds_and_bounds(self):
        for clauses, kind, bound in (
                ([yes(p(C)), no(p(("d",))), no(equal(C, ("d",)))], "ground", 2), ([yes(equal("X", C)), no(p(C)) + yes(p(("d",)))], "constants", 2),
                (EXAMPLE, None, None), ([], "ground", 1), ([[]], "ground", 1), ([yes(Q)], "ground", 1), ([yes(p("X"))], "constants", 1),
                ([yes(p(f(f(A)))), no(p(f(A)))], "ground", 3), ([yes(p(f(A), ))] + [yes(p(g(A, f(B))))], "ground", 5),
                ([yes(p(A))] + [no(p("Y"))], "constants", 1), ([yes(equal(A, B), ("r", C, C))], "ground", 3)):
            self.assertEqual(kind_of(clauses), kind)
            self.assertEqual(size_bound(clauses), bound)
            self.assertEqual(size_bound(as_lists(clauses)), bound)
            self.assertEqual(kind_of(as_tuples(clauses)), kind)
        self.check_clause_errors(kind_of)
        self.check_clause_errors(size_bound)

    def test_bounds_hold(self):
        """If there is a world of a greater size there is one up to the bound."""
        chance = random.Random(13)
        names = Names([("c", 0), ("d", 0)], [("p", 1), ("q", 0)])
        ground = Names([("c", 0), ("f", 1)], [("p", 1)])
        for _ in range(150):
            clauses = [some_clause(chance, names, 3) for _ in range(chance.randrange(1, 7))]
            if chance.random() < 0.4:
                clauses = [[(is_so, grounded(atom)) for is_so, atom in some_clause(chance, ground, 2)] for _ in range(4)]
            bound = size_bound(clauses)
            found = [world_sized(clauses, many)[0] for many in range(1, bound + 3)]
            if "world" in found:
                self.assertIn("world", found[:bound])

    def test_one_place_bound(self):
        x_is_p, q_of_c = ("some", "X", ("p", "X")), ("q", C)
        for sentences, bound in (([], 1), ([x_is_p], 2), ([x_is_p, q_of_c], 4), ([x_is_p, ("not", x_is_p), ("r",)], 4), ([("all", "X", ("and", ("p", "X"), ("r",)))], 4),
                                 ([("all", "X", ("=", "X", "X"))], None), ([("=", C, C), x_is_p], None), ([("and", x_is_p, ("=", C, C)), x_is_p], None), ([x_is_p, ("p", f(C))], None), ([("s", C, C)], None),
                                 ([x_is_p, ("iff", ("s", C, C), ("s", C, C))], None), ([("then", ("a1",), ("or", ("a2",), ("a3",)))], 8)):
            self.assertEqual(one_place_bound(sentences), bound)
            self.assertEqual(one_place_bound(as_lists(sentences)), bound)
        self.assertEqual(one_place_bound([(f"p{at}",) for at in range(60)]), 2 ** 60)

    def test_bad_sentences(self):
        good = ("some", "X", ("p", "X"))
        for thing in (None, 5, "", {}, True):
            self.caught_at(BadSentences, 0, lambda: one_place_bound(thing))
        for bad in THINGS:
            if bad not in (("q",), ("not", ("q",))) and not isinstance(bad, list) and bad != ("p",):
                self.caught_at(BadSentences, 1, lambda: one_place_bound([good, bad, None]))
        for bad in (("p", "X"), ("p",), ("p", C, C), ("q", ("p",)), ("q", ("p", C)), ("and", ("q",), ("q", C)), ("q", ("q",)),
                    ("and", ("=", ("c",), ("c",)), ("p", ("c", C))), ("all", "Y", ("p", "X")), ("all", "X", ("not", ("and", good, ("p", f("Y")))))):
            self.caught_at(BadSentences, 1, lambda: one_place_bound([good, bad]))
            self.caught_at(BadSentences, 1, lambda: one_place_bound(as_lists([good, bad])))
        # What is wrong further on comes ahead of what bars a bound.
        self.caught_at(BadSentences, 2, lambda: one_place_bound([("s", C, C), ("=", C, C), None]))

    def test_one_place_bound_holds(self):
        chance = random.Random(14)
        names = Names([("c", 0)], [("p", 1), ("q", 1)])
        met = 0
        for _ in range(200):
            sentences = [some_sentence(chance, names, 4, ()) for _ in range(2)]
            bound = one_place_bound(sentences)
            if bound is not None:
                met += 1
                worlds = [[world_at(names, many, number) for number in range(count_worlds(names, many))] for many in range(1, 6)]
                found = [any(all(holds(world, sentence) for sentence in sentences) for world in lot) for lot in worlds]
                self.assertTrue(any(found[:bound]) or not any(found))
        self.assertGreater(met, 20)


def grounded(atom):
    """The atom with the constant c for its variables."""
    def ground(word):
        return C if isinstance(word, str) else (word[0],) + tuple(ground(part) for part in word[1:])
    return (atom[0],) + tuple(ground(word) for word in atom[1:])


SHRUNK = Names([("a", 0), ("f", 1), ("g", 2)], [("p", 1), ("q", 0), ("r", 2)])
NARROW = Names([("c", 0), ("d", 0)], [("p", 1), ("q", 0), ("s", 1)])


class ShrinkingTests(SizedCase):
    def test_cut_down(self):
        world = (4, {"a": {(): 2}, "f": {(0,): 0, (1,): 3, (2,): 1, (3,): 0}}, {"p": [(0,), (2,)], "r": [(0, 3), (1, 1)]})
        self.assertEqual(cut_down(world), world)
        less = (4, {"a": {(): 3}, "f": {(0,): 0, (1,): 3, (2,): 1, (3,): 1}}, {"p": [(0,), (3,)], "r": [[3, 1], [0, 3], [1, 1]]})
        self.assertEqual(kinds(cut_down(less)), kinds((2, {"a": {(): 1}, "f": {(0,): 1, (1,): 0}}, {"p": [(1,)], "r": [(0, 0), (1, 0)]})))
        self.assertEqual(cut_down((3, {}, {"p": [(2,), (0,)], "q": [()]})), (1, {}, {"p": [(0,)], "q": [()]}))
        self.assertEqual(cut_down((3, {"f": {(0,): 2, (1,): 1, (2,): 0}}, {"p": [(2,)]})), (2, {"f": {(0,): 1, (1,): 0}}, {"p": [(1,)]}))
        apart = (3, {"a": {(): 2}, "b": {(): 1}}, {"p": [(0,)]})
        self.assertEqual(cut_down(apart), (2, {"a": {(): 1}, "b": {(): 0}}, {"p": []}))

    def test_clauses_hold_in_less(self):
        chance = random.Random(15)
        less = 0
        for _ in range(400):
            world = some_world(chance, SHRUNK, chance.randrange(1, 5))
            kept = copy.deepcopy(world)
            told = cut_down(world)
            self.assertEqual(world, kept)
            self.assertIsNone(world_fault(SHRUNK, told))
            less += told[0] < world[0]
            clause = some_clause(chance, SHRUNK, 3)
            if false_giving(world, clause) is None:
                self.assertIsNone(false_giving(told, clause))
            self.assertEqual(cut_down(told), told)
        self.assertGreater(less, 50)

    def test_merged(self):
        world = (4, {"c": {(): 3}, "d": {(): 1}}, {"p": [(3,), (1,)], "q": [()], "s": [[2]]})
        self.assertEqual(kinds(merged(world)), kinds((3, {"c": {(): 1}, "d": {(): 1}}, {"p": [(1,)], "q": [()], "s": [(2,)]})))
        self.assertEqual(merged((5, {}, {})), (1, {}, {}))
        self.assertEqual(merged((5, {}, {"q": [()], "r": []})), (1, {}, {"q": [()], "r": []}))
        for bad in ((2, {"f": {(0,): 0, (1,): 1}}, {}), (2, {}, {"r": [(0, 1)]}), (1, {"c": {(): 0}, "g": {(0, 0): 0}}, {"p": []}), (1, {}, {"p": [(0,)], "t": [(0, 0, 0)]})):
            self.caught(BadWorld, merged, bad)

    def test_twin(self):
        world = (2, {"a": {(): 1}, "f": {(0,): 0, (1,): 0}}, {"p": [(1,)], "q": [()], "r": [(1, 1), (0, 1)]})
        told = (3, {"a": {(): 1}, "f": {(0,): 0, (1,): 0, (2,): 0}}, {"p": [(1,), (2,)], "q": [()], "r": [(0, 1), (0, 2), (1, 1), (1, 2), (2, 1), (2, 2)]})
        self.assertEqual(kinds(twin(world, 1)), kinds(told))
        self.assertEqual(kinds(twin((2, world[1], as_lists(world[2])), 1)), kinds(told))
        self.assertEqual(twin((1, {}, {"p": [], "r": []}), 0), (2, {}, {"p": [], "r": []}))
        pairs = {row: (row[0] + row[1]) // 2 for row in itertools.product(range(2), repeat=2)}
        self.assertEqual(twin((2, {"g": pairs}, {}), 0)[1]["g"], {(0, 0): 0, (0, 1): 0, (0, 2): 0, (1, 0): 0, (1, 1): 1, (1, 2): 0,
                                                                  (2, 0): 0, (2, 1): 0, (2, 2): 0})
        for bad in (2, -1, True, None, "0", [0]):
            self.caught(BadThing, lambda thing: twin(world, thing), bad)

    def test_same_truth(self):
        """Sentences without = have one truth in a world, with twins, and with things made one."""
        chance = random.Random(16)
        met = 0
        for _ in range(500):
            sentence = some_sentence(chance, SHRUNK, 4, ())
            world = some_world(chance, SHRUNK, chance.randrange(1, 4))
            kept = copy.deepcopy(world)
            more = twin(world, chance.randrange(world[0]))
            self.assertEqual(world, kept)
            self.assertIsNone(world_fault(SHRUNK, more))
            if "'='" not in str(sentence):
                met += 1
                self.assertEqual(holds(world, sentence), holds(more, sentence))
            sentence = some_sentence(chance, NARROW, 4, ())
            world = some_world(chance, NARROW, chance.randrange(1, 6))
            less = merged(world)
            self.assertIsNone(world_fault(NARROW, less))
            self.assertLessEqual(less[0], 4)
            self.assertEqual(merged(less), less)
            self.assertEqual(merged(twin(world, world[0] - 1)), less)
            if "'='" not in str(sentence):
                self.assertEqual(holds(world, sentence), holds(less, sentence))
        self.assertGreater(met, 50)


class HowManyTests(SizedCase):
    def test_small_ones(self):
        self.assertEqual(how_many([], 3), 1)
        self.assertEqual(world_there([], 3, 0), (3, {}, {}))
        self.assertEqual(how_many([[]], 3), 0)
        self.assertEqual(how_many(EXAMPLE, 1), 0)
        self.assertEqual(how_many([yes(p("X")) + no(p("X"))], 3), 8)
        self.assertEqual(how_many([yes(equal(f(f("X")), "X"))], 4), 10)
        self.assertEqual(kinds(world_there([yes(p(A))], 2, 3)), kinds((2, {"a": {(): 1}}, {"p": [(0,), (1,)]})))
        for bad in (4, -1, None, True, "0"):
            self.caught(BadNumber, lambda thing: world_there([yes(p(A))], 2, thing), bad)
        self.caught(BadNumber, lambda thing: world_there([[]], 1, thing), 0)

    def test_against_all_worlds(self):
        chance = random.Random(17)
        met = 0
        for _ in range(250):
            clauses = [some_clause(chance, DRAWN, 3) for _ in range(chance.randrange(1, 5))]
            many = chance.randrange(1, 4)
            if count_worlds(names_in(clauses), many) < 600:
                plain = plain_worlds(clauses, many)
                self.assertEqual(how_many(as_lists(clauses), many), len(plain))
                for number in sorted(set([0, len(plain) - 1, len(plain) // 2, len(plain) // 3])):
                    if 0 <= number < len(plain):
                        met += 1
                        self.assertEqual(kinds(world_there(clauses, many, number)), kinds(plain[number]))
                self.caught(BadNumber, lambda thing: world_there(clauses, many, thing), len(plain))
                self.assertEqual(len(plain) > 0, world_sized(clauses, many)[0] == "world")
        self.assertGreater(met, 100)

    def test_many_worlds(self):
        self.assertEqual(how_many([yes(("r", "X", "Y")) + no(("r", "Y", "X"))], 5), 2 ** 15)
        self.assertEqual(how_many([yes(p("X"), ("s", "X"), ("t", "X"))], 5), 7 ** 5)
        told = world_there([yes(p("X"), ("s", "X"), ("t", "X"))], 5, 7 ** 5 - 1)
        self.assertEqual(told, (5, {}, {name: [(at,) for at in range(5)] for name in "pst"}))


if __name__ == "__main__":
    unittest.main()
