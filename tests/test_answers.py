"""Answers, what is wrong with them, audits, what is needed, atoms that are known: [80] to [88]."""

import copy
import random
import unittest

from eithershown.answeraudits import audit
from eithershown.answers import answer_for, answer_why
from eithershown.bounds import one_place_bound, size_bound
from eithershown.clauseforms import Form, problem_form
from eithershown.errors import BadAtoms, BadBound, BadDepth, BadProblem, BadSize, BadTheory, Crowded
from eithershown.instancing import count_instances
from eithershown.levels import least_depth, level
from eithershown.listing import count_worlds, world_at
from eithershown.lots import atoms_known, needed_names
from eithershown.meaning import first_false, holds
from eithershown.papertexts import answer_fault, answer_text, read_answer
from eithershown.searching import least_size
from eithershown.signatures import Names
from eithershown.theories import Problem, Theory
from eithershown.theorytexts import problem_fault, problem_text, read_problem
from eithershown.worlds import world_fault
from tests.making import M, N, S, THINGS, as_lists, as_tuples, kinds, some_sentence
from tests.test_ground import Case

SOC = ("soc",)
MORTAL, MAN = ("mortal", SOC), ("man", SOC)
PM, PS, PN = read_problem(M), read_problem(S), read_problem(N)
ALL_MAN = M.replace("goal: mortal(soc)", "goal: all X: man(X)")
PA = read_problem(ALL_MAN)


def clauses_of(problem):
    return [clause for _, clause in problem_form(problem).clauses()]


def drawn_problem(chance, functions=True, ten=False):
    names = Names([("c", 0), ("d", 0), ("f", 1)][:chance.randrange(4) if functions else chance.randrange(3)], [("p", 1), ("q", 0), ("r", 2)][:1 + chance.randrange(3)])
    many = 9 if ten else chance.randrange(5)
    axioms = [(f"a{at}", some_sentence(chance, names, chance.randrange(1, 5), ())) for at in range(many)]
    return Problem(Theory(names, axioms), some_sentence(chance, names, 3, ()))


def with_part(thing, at, part):
    return thing[:at] + (part,) + thing[at + 1:]


class AnswerCase(Case):
    def check_problem_errors(self, ask):
        """For all that has a problem, then a depth."""
        for bad in (None, 5, M, PM.theory(), (PM.theory(), PM.goal()), []):
            self.caught(BadProblem, lambda thing: ask(thing, None), bad)
        for bad in (None, -1, True, "0", []):
            self.caught(BadDepth, lambda thing: ask(PM, thing), bad)


class AnswerForTests(AnswerCase):
    def test_the_examples(self):
        for depth in (0, 1, 2):
            for size in (1, 2, 3):
                told = answer_for(PM, depth, size, 500)
                self.assertEqual(told[:2], ("follows", 0))
                told = answer_for(PS, depth, size, 500)
                self.assertEqual(told[:2], ("fails", 2) if size > 1 else ("open", depth))
                told = answer_for(PN, depth, size, 500)
                self.assertEqual(told[:3], ("open", depth, size))
                self.assertEqual(len(told[4]), size)
                told = answer_for(PA, depth, size, 500)
                self.assertEqual(told[:2], ("fails", 2) if size > 1 else ("open", depth))
        world = answer_for(PA, 0, 2, 500)[2]
        self.assertEqual(world[0], 2)
        self.assertEqual(world[2]["man"], [(world[1]["soc"][()],)])
        tree = answer_for(PA, 0, 1, 500)[4][0]
        self.assertEqual(sorted(cell_names(tree)), ["man", "s1", "soc"])

    def test_the_least_number(self):
        """The least depth that clashes, and the least size with a world."""
        text = "function c 0\nfunction f 1\npredicate p 1\naxiom a1: p(c)\naxiom a2: all X: (p(X) then p(f(X)))\ngoal: p(f(f(f(c))))\n"
        problem = read_problem(text)
        self.assertEqual([answer_for(problem, depth, 1, 500)[:2] for depth in (0, 1, 2, 3)], [("open", 0), ("open", 1), ("follows", 2), ("follows", 2)])
        some = "predicate p 1\npredicate q 1\naxiom a1: some X: (p(X) and q(X))\naxiom a2: some X: (p(X) and not q(X))\ngoal: all X: p(X)\n"
        self.assertEqual([answer_for(read_problem(some), 0, size, 500)[:2] for size in (1, 2, 3, 4)], [("open", 0), ("open", 0), ("fails", 3), ("fails", 3)])

    def test_worlds_of_the_names_alone(self):
        """Names that stand in no clause have tables, new names have none."""
        text = "function c 0\nfunction f 1\npredicate p 1\npredicate r 2\naxiom a1: some X: (p(X) iff some Y: not p(Y))\ngoal: all X: p(X)\n"
        told = answer_for(read_problem(text), 0, 3, 500)
        self.assertEqual(told[0], "fails")
        self.assertEqual(kinds(list(told[2][1])), kinds(["c", "f"]))
        self.assertEqual(list(told[2][2]), ["p", "r"])
        self.assertIsNone(world_fault(read_problem(text).theory().names(), told[2]))

    def test_errors(self):
        self.check_problem_errors(lambda problem, depth: answer_for(problem, depth, None, None))
        for bad in (None, 0, -1, True, "1", []):
            self.caught(BadSize, lambda thing: answer_for(PM, 0, thing, None), bad)
        for bad in (None, -1, True, "0", []):
            self.caught(BadBound, lambda thing: answer_for(PM, 0, 1, thing), bad)
        for problem, depth in ((PM, 0), (PN, 0), (PN, 1), (PN, 2)):
            many = count_instances(clauses_of(problem), depth)
            self.assertEqual(answer_why(problem, depth, 1, answer_for(problem, depth, 1, many)), None)
            with self.assertRaises(Crowded) as caught:
                answer_for(problem, depth, 1, many - 1)
            self.assertEqual(caught.exception.many, many)

    def test_drawn(self):
        """Each answer is right, the least number is told, what can not be told is not; its text is let by."""
        chance = random.Random(41)
        met = {}
        for at in range(350):
            problem = drawn_problem(chance, True, at % 25 == 0)
            depth, size = chance.randrange(3), chance.randrange(1, 4)
            clauses = clauses_of(problem)
            many = count_instances(clauses, depth)
            if many > 60:
                with self.assertRaises(Crowded) as caught:
                    answer_for(problem, depth, size, 60)
                self.assertEqual(caught.exception.many, many)
                met["crowded"] = met.get("crowded", 0) + 1
                continue
            told = answer_for(problem, depth, size, 60)
            met[told[0]] = met.get(told[0], 0) + 1
            self.assertIsNone(answer_why(problem, depth, size, told))
            self.assertIsNone(answer_why(problem, depth, size, as_lists(told)))
            self.assertIsNone(audit(problem_text(problem), answer_text(told), depth, size))
            least = least_depth(clauses, depth, 400)
            found = least_size(clauses, size)
            if told[0] == "follows":
                self.assertEqual(told[1], least)
                self.assertEqual(found[0], "trees")
            elif told[0] == "fails":
                self.assertIsNone(least)
                self.assertEqual(found[:2], ("world", told[1]))
                self.assertEqual(told[2][0], told[1])
            else:
                self.assertIsNone(least)
                self.assertEqual(kinds(told), kinds(("open", depth, size, told[3], told[4])))
                self.assertEqual(len(told[4]), size)
                self.assertEqual(level(clauses, depth, 400)[0], "table")
                self.assertEqual(found[0], "trees")
        self.assertGreater(min(met.values()), 10)
        self.assertEqual(len(met), 4)

    def test_told_alike(self):
        """Also where problems are asked in turns, and with lists for tuples."""
        chance = random.Random(42)
        problems = [drawn_problem(chance) for _ in range(15)]
        first = [answer_for(problem, 0, 2, 10 ** 5) for problem in problems]
        for problem, told in list(zip(problems, first))[::-1]:
            again = Problem(Theory(problem.theory().names(), as_lists(problem.theory().axioms())), as_lists(problem.goal()))
            self.assertEqual(kinds(answer_for(again, 0, 2, 10 ** 5)), kinds(told))
            self.assertIsNot(answer_for(again, 0, 2, 10 ** 5)[-1], told[-1])

    def test_never_two(self):
        """What fails in a finite world never follows."""
        chance = random.Random(43)
        for _ in range(60):
            problem = drawn_problem(chance)
            names = problem.theory().names()
            told = [answer_for(problem, depth, size, 10 ** 5)[0] for depth in (0, 1) for size in (1, 2) if count_instances(clauses_of(problem), depth) < 300]
            self.assertFalse("follows" in told and "fails" in told)
            if "follows" in told:
                for many in (1, 2):
                    for number in range(min(400, count_worlds(names, many))):
                        world = world_at(names, many, number)
                        self.assertTrue(first_false(world, problem.theory()) is not None or holds(world, problem.goal()))

    def test_without_functions(self):
        """Never open at depth 0, and a size of as many as there are constants."""
        chance = random.Random(44)
        met = 0
        for _ in range(300):
            problem = drawn_problem(chance, False)
            clauses = clauses_of(problem)
            bound = size_bound(clauses)
            if bound is not None and bound < 5 and count_instances(clauses, 0) < 400:
                met += 1
                self.assertNotEqual(answer_for(problem, 0, bound, 400)[0], "open")
        self.assertGreater(met, 100)

    def test_one_place(self):
        chance = random.Random(45)
        names = Names([("c", 0)], [("p", 1), ("q", 0)])
        met = {}
        for _ in range(200):
            axioms = [(f"a{at}", some_sentence(chance, names, 4, ())) for at in range(chance.randrange(3))]
            goal = some_sentence(chance, names, 3, ())
            bound = one_place_bound([sentence for _, sentence in axioms] + [goal])
            problem = Problem(Theory(names, axioms), goal)
            if bound is not None and count_instances(clauses_of(problem), 0) < 400:
                told = answer_for(problem, 0, bound, 400)[0]
                worlds = [world_at(names, many, number) for many in range(1, bound + 1) for number in range(count_worlds(names, many))]
                fails = any(first_false(world, problem.theory()) is None and not holds(world, goal) for world in worlds)
                self.assertEqual(told == "fails", fails)
                met[told] = met.get(told, 0) + 1
        self.assertGreater(met["follows"], 5)
        self.assertGreater(met["fails"], 5)


def cell_names(tree):
    return set() if tree[0] == "clash" else {tree[1]}.union(*[cell_names(part) for part in tree[3]])


class AnswerWhyTests(AnswerCase):
    def setUp(self):
        self.follows = answer_for(PM, 0, 1, 500)
        self.fails = answer_for(PA, 0, 2, 500)
        self.open = answer_for(PN, 1, 2, 500)

    def test_form(self):
        for bad in THINGS + (("follows",), ("follows", 0), ("follows", 0, None), ("follows", 0, {}), ("follows", True, []), ("follows", -1, []), ("follows", 0, [], []),
                             ("fails", 1, None), ("fails", 1, "world"), ("fails", "1", []), ("fails", None, []), ("fails", 1, [], []), ("open", 1, 2, []), ("open", 1, None, None, []),
                             ("open", True, 2, None, []), ("open", 1, 2, None, None), ("open", 1, 2, None, {}), ("open", 1, 2, None, [], 0), ("open", 1, []), ("Follows", 0, []),
                             (["follows"], 0, []), (None, 0, [])):
            for problem in (PM, PN):
                self.assertEqual(answer_why(problem, 1, 2, bad), ("form",), bad)

    def test_follows(self):
        rows = self.follows[2]
        self.assertIsNone(answer_why(PM, 0, 1, self.follows))
        self.assertIsNone(answer_why(PM, 5, 1, with_part(self.follows, 1, 5)))
        self.assertEqual(kinds(answer_why(PM, 0, 1, with_part(self.follows, 1, 1))), kinds(("depth",)))
        self.assertEqual(answer_why(PM, 0, 1, ("follows", 1, [None])), ("depth",))
        self.assertEqual(kinds(answer_why(PM, 0, 1, ("follows", 0, rows[:2] + [None, 5]))), kinds(("row", 2, "form")))
        self.assertEqual(answer_why(PM, 0, 1, ("follows", 0, rows[:-1] + [("given", [9], [], None, [])])), ("row", len(rows) - 1, "ahead"))
        self.assertEqual(answer_why(PM, 0, 1, ("follows", 0, rows[:-1] + [("given", [1], [], None, [])])), ("row", len(rows) - 1, "clause"))
        self.assertEqual(answer_why(PM, 0, 1, ("follows", 0, [with_part(rows[0], 3, SOC)] + rows[1:])), ("row", 0, "form"))
        self.assertEqual(answer_why(PM, 0, 1, ("follows", 0, [])), ("last",))
        self.assertEqual(answer_why(PM, 0, 1, ("follows", 0, rows[:-1])), ("last",))
        self.assertEqual(answer_why(PM, 0, 1, ("follows", 0, rows + rows[:1])), ("last",))
        self.assertEqual(answer_why(PS, 0, 1, self.follows)[0], "row")
        # Whoever told it: deeper words, more rows.
        self.assertIsNone(answer_why(PM, 0, 1, ["follows", 0, as_tuples(rows[:1] + [("instance", [0], [{}], None, rows[0][4])]) + as_tuples(moved(rows, 1, 2))]))

    def test_fails(self):
        many, functions, predicates = self.fails[2]
        self.assertIsNone(answer_why(PA, 0, 2, self.fails))
        self.assertIsNone(answer_why(PA, 0, 9, as_lists(self.fails)))
        self.assertEqual(kinds(answer_why(PA, 0, 1, self.fails)), kinds(("size",)))
        for world in ([], (), (3, functions, predicates), (True, functions, predicates), ("2", functions, predicates), [None], ([2], functions)):
            self.assertEqual(answer_why(PA, 0, 2, ("fails", 2, world)), ("size",), world)
        self.assertEqual(answer_why(PA, 0, 2, ("fails", 1, (True, functions, predicates))), ("size",))
        for world in ((2,), (2, functions), (2, {}, {}), (2, functions, {**predicates, "more": []}), (2, {"soc": {(): 2}}, predicates), (2, functions, {**predicates, "man": [(2,)]})):
            self.assertEqual(answer_why(PA, 0, 2, ("fails", 2, world)), ("world",), world)
        self.assertEqual(answer_why(PA, 0, 2, ("fails", 0, (0, {}, {}))), ("world",))
        soc = functions["soc"][()]
        self.assertEqual(answer_why(PA, 0, 2, ("fails", 2, (2, functions, {"man": [(0,), (1,)], "mortal": []}))), ("axiom", "a1"))
        self.assertEqual(answer_why(PA, 0, 2, ("fails", 2, (2, functions, {"man": [], "mortal": []}))), ("axiom", "a2"))
        self.assertEqual(answer_why(PA, 0, 2, ("fails", 2, (2, functions, {"man": [(1,), (0,)], "mortal": [[0], [1]]}))), ("goal",))
        self.assertIsNone(answer_why(PA, 0, 2, ("fails", 2, (2, functions, {"man": [[soc]], "mortal": [[1], [0]]}))))
        self.assertIsNone(answer_why(PA, 0, 3, ("fails", 3, (3, {"soc": {(): 1}}, {"man": [[1]], "mortal": [[1]]}))))

    def test_open(self):
        table, trees = self.open[3], self.open[4]
        self.assertIsNone(answer_why(PN, 1, 2, self.open))
        self.assertIsNone(answer_why(PN, 1, 2, as_tuples(self.open)))
        for depth, size in ((0, 2), (2, 2), (1, 1), (1, 3)):
            self.assertEqual(kinds(answer_why(PN, depth, size, self.open)), kinds(("numbers",)))
        self.assertEqual(answer_why(PN, 1, 2, ("open", 2, 1, None, [])), ("numbers",))
        for part in (None, 5, (), (table[0],), (table[0], None)):
            self.assertEqual(kinds(answer_why(PN, 1, 2, with_part(self.open, 3, part))), kinds(("table", ("form",))))
        self.assertEqual(answer_why(PN, 1, 2, with_part(self.open, 3, (table[0][1:], []))), ("table", ("words",)))
        self.assertEqual(answer_why(PN, 1, 2, with_part(self.open, 3, (table[0], [])))[:1], ("table",))
        self.assertEqual(answer_why(PN, 1, 2, with_part(self.open, 3, (table[0], [])))[1][0], "clause")
        self.assertEqual(answer_why(PN, 1, 2, with_part(self.open, 3, (table[0], table[1] + [("zz", [])])))[1], ("facts",))
        self.assertEqual(kinds(answer_why(PN, 1, 2, with_part(self.open, 4, []))), kinds(("trees", 0)))
        self.assertEqual(answer_why(PN, 1, 2, with_part(self.open, 4, trees + trees)), ("trees", 4))
        self.assertEqual(kinds(answer_why(PN, 1, 2, with_part(self.open, 4, [None, None]))), kinds(("tree", 1, [], "form")))
        self.assertEqual(answer_why(PN, 1, 2, with_part(self.open, 4, [trees[0], None])), ("tree", 2, [], "form"))
        self.assertEqual(answer_why(PN, 1, 2, with_part(self.open, 4, [trees[0], trees[0]]))[:2], ("tree", 2))
        self.assertEqual(answer_why(PN, 1, 2, with_part(self.open, 4, [trees[0], ("clash", 0, {})])), ("tree", 2, [], "clause"))

    def test_errors(self):
        self.check_problem_errors(lambda problem, depth: answer_why(problem, depth, None, None))
        for bad in (None, 0, -1, True, "1", []):
            self.caught(BadSize, lambda thing: answer_why(PM, 0, thing, None), bad)

    def test_nothing_is_changed(self):
        for problem, depth, size, told in ((PM, 0, 1, self.follows), (PA, 0, 2, self.fails), (PN, 1, 2, self.open)):
            kept = copy.deepcopy(told)
            answer_why(problem, depth, size, told)
            self.assertEqual(kinds(told), kinds(kept))


def moved(rows, after, by):
    """The rows behind the first one, their premises numbered for a derivation with one row more."""
    told = []
    for rule, premises, substitutions, spot, clause in rows[after:]:
        told.append((rule, premises if rule == "given" else [at if at < after else at + by - 1 for at in premises], substitutions, spot, clause))
    return told


class AuditTests(AnswerCase):
    def setUp(self):
        self.follows = answer_text(answer_for(PM, 0, 1, 500))
        self.fails = answer_text(answer_for(PA, 0, 2, 500))
        self.open = answer_text(answer_for(PN, 1, 2, 500))

    def test_right_ones(self):
        self.assertIsNone(audit(M, self.follows, 0, 1))
        self.assertIsNone(audit(ALL_MAN, self.fails, 0, 2))
        self.assertIsNone(audit(N, self.open, 1, 2))
        # Names may be told in another order.
        turned = "predicate mortal 1\nfunction soc 0\npredicate man 1\n" + "\n".join(M.split("\n")[3:])
        self.assertIsNone(audit(turned, self.follows, 3, 1))

    def test_form(self):
        self.assertEqual(kinds(audit(M.replace("axiom a2", "axiom a1"), None, 0, 1)), kinds(("problem", 5, 9, "form")))
        for bad in (None, 5, [], b"text"):
            self.assertEqual(audit(bad, self.follows, 0, 1), ("problem", 0, 0, "form"))
            self.assertEqual(audit(M, bad, 0, 1), ("answer", 0, 0, "form"))
        self.assertEqual(audit(M, "", 0, 1), ("answer", 1, 1, "form"))
        self.assertEqual(audit(M, "follow 0\n", 0, 1), ("answer", 1, 7, "form"))
        self.assertEqual(audit("", self.follows, 0, 1), ("problem", 1, 1, "form"))
        self.assertEqual(audit(M, "fails 2\nthings 2\nsoc is 0\ns1 is 0\n", 0, 1), ("answer", 4, 1, "form"))
        # By the form's names, if the text does not begin with "fails".
        self.assertIn("s1", answer_text(answer_for(PS, 0, 1, 500)))
        self.assertIsNone(audit(S, answer_text(answer_for(PS, 0, 1, 500)), 0, 1))
        self.assertEqual(audit(S, "fails 1\nthings 1\ns1 is 0\n", 0, 1), ("answer", 3, 1, "form"))

    def test_follows(self):
        lines = self.follows.split("\n")[:-1]
        self.assertEqual(audit(M, self.follows.replace("follows 0", "follows 1"), 0, 1), ("answer", 1, 1, "depth"))
        self.assertEqual(audit(M, "follows 0\n", 0, 1), ("answer", 2, 1, "last"))
        self.assertEqual(audit(M, "\n".join(lines[:-1]) + "\n", 0, 1), ("answer", len(lines), 1, "last"))
        self.assertEqual(audit(M, "\n".join(lines[:2] + ["given 7: false"]) + "\n", 0, 1), ("answer", 3, 1, "ahead"))
        self.assertEqual(audit(M, "follows 0\ngiven 1: man(soc)\ngiven 1: mortal(soc)\n", 0, 1), ("answer", 3, 1, "clause"))
        self.assertEqual(audit(M, "follows 0\nholds of X = X, X = X: false\n", 0, 1), ("answer", 2, 1, "spot"))
        self.assertEqual(audit(M, "follows 0\ngiven 2: not mortal(soc)\ninstance 1 by X = soc: not mortal(soc)\n", 0, 1), ("answer", 3, 1, "ahead"))

    def test_fails(self):
        self.assertEqual(audit(ALL_MAN, self.fails, 0, 1), ("answer", 1, 1, "size"))
        self.assertEqual(audit(ALL_MAN, self.fails.replace("fails 2", "fails 1"), 0, 2), ("answer", 1, 1, "size"))
        told = "fails 2\nthings 2\nsoc is 1\n"
        self.assertEqual(audit(ALL_MAN, told + "man 0\n", 0, 2), ("problem", 4, 1, "axiom"))
        self.assertEqual(audit(ALL_MAN, told, 0, 2), ("problem", 5, 1, "axiom"))
        self.assertEqual(audit(ALL_MAN, told + "man 0\nman 1\nmortal 1\nmortal 0\n", 0, 2), ("problem", 6, 1, "goal"))
        self.assertIsNone(audit(ALL_MAN, told + "man 1\nmortal 1\n", 0, 2))
        self.assertEqual(audit("goal: all X: X = X\n", "fails 1\nthings 1\n", 0, 1), ("problem", 1, 1, "goal"))

    def test_open(self):
        lines = self.open.split("\n")[:-1]
        self.assertEqual(audit(N, self.open, 1, 3), ("answer", 1, 1, "numbers"))
        self.assertEqual(audit(N, self.open, 0, 2), ("answer", 1, 1, "numbers"))
        without = [line for line in lines if not line.startswith("fact")]
        self.assertEqual(audit(N, "\n".join(without) + "\n", 1, 2), ("answer", 2, 1, "table"))
        self.assertEqual(audit(N, "open 1 2\n", 1, 2), ("answer", 2, 1, "table"))
        second = lines.index("size 2")
        self.assertEqual(audit(N, "\n".join(lines[:second]) + "\n", 1, 2), ("answer", second + 1, 1, "trees"))
        more = lines + ["size 3", "clash 0 by X1 = 0"]
        self.assertEqual(audit(N, "\n".join(more) + "\n", 1, 2), ("answer", len(more) + 1, 1, "trees"))
        self.assertEqual(audit(N, "\n".join(lines[:second + 1] + ["clash 0 by X1 = 0"]) + "\n", 1, 2), ("answer", second + 1, 1, "tree"))
        first = lines.index("size 1")
        self.assertEqual(audit(N, "\n".join(lines[:first + 1] + ["clash 0 by X1 = 0", "size 2", "clash 0 by X1 = 0"]) + "\n", 1, 2), ("answer", first + 1, 1, "tree"))

    def test_errors(self):
        for bad in (None, -1, True, "0", []):
            self.caught(BadDepth, lambda thing: audit(None, None, thing, None), bad)
        for bad in (None, 0, -1, True, "1", []):
            self.caught(BadSize, lambda thing: audit(None, None, 0, thing), bad)

    def test_drawn(self):
        """Texts with a sign exchanged, or a line: what the audit tells goes with answer_why."""
        chance = random.Random(46)
        met = {}
        for _ in range(300):
            problem = drawn_problem(chance)
            depth, size = chance.randrange(2), chance.randrange(1, 3)
            if count_instances(clauses_of(problem), depth) > 200:
                continue
            text, told = problem_text(problem), answer_text(answer_for(problem, depth, size, 200))
            lines = told.split("\n")[:-1]
            for _ in range(4):
                at = chance.randrange(len(lines))
                other = chance.choice([told[:at] + told[at + 1:], "\n".join(lines[:at] + lines[at + 1:]) + "\n", told.replace("0", "1", 1), told.replace("not ", "", 1),
                                       "\n".join(lines[:at] + [chance.choice(lines)] + lines[at:]) + "\n"])
                found = audit(text, other, depth, size)
                names = problem.theory().names() if other.startswith("fails") else problem_form(problem).names()
                fault = answer_fault(names, other)
                if fault is not None:
                    self.assertEqual(found, ("answer",) + fault + ("form",))
                else:
                    why = answer_why(problem, depth, size, read_answer(names, other))
                    self.assertEqual(found is None, why is None)
                    if why is not None:
                        self.assertEqual(found[3], why[2] if why[0] == "row" else why[0])
                        self.assertEqual(found[0], "problem" if why[0] in ("axiom", "goal") else "answer")
                        if why[0] == "axiom":
                            self.assertTrue(text.split("\n")[found[1] - 1].startswith(f"axiom {why[1]}: "))
                        if why[0] == "goal":
                            self.assertTrue(text.split("\n")[found[1] - 1].startswith("goal: "))
                        if why[0] == "tree":
                            self.assertEqual(other.split("\n")[found[1] - 1], f"size {why[1]}")
                met[found[3] if found else None] = True
        self.assertGreater(len(met), 6)


class LotTests(AnswerCase):
    def test_needed_names(self):
        self.assertEqual(kinds(needed_names(PM, 0, 500)), kinds(["a1", "a2", "goal"]))
        self.assertIsNone(needed_names(PS, 1, 500))
        self.assertIsNone(needed_names(PN, 1, 500))
        # The last names go first; the goal goes where axioms clash by themselves.
        text = "predicate q 0\npredicate p 0\naxiom b: q\naxiom c: not q\naxiom a: not q\naxiom d: p\ngoal: "
        self.assertEqual(needed_names(read_problem(text + "p\n"), 0, 500), ["a", "b"])
        self.assertEqual(needed_names(read_problem(text + "(q or p)\n"), 0, 500), ["a", "b"])
        self.assertEqual(needed_names(read_problem("predicate p 0\naxiom b: p\naxiom a: p\naxiom c: p\ngoal: p\n"), 0, 500), ["a", "goal"])
        self.assertEqual(needed_names(read_problem("predicate p 0\naxiom b: p\ngoal: (p or not p)\n"), 0, 500), ["goal"])
        # A depth that is not enough.
        text = "function c 0\nfunction f 1\npredicate p 1\naxiom a1: p(c)\naxiom a2: all X: (p(X) then p(f(X)))\ngoal: p(f(f(c)))\n"
        self.assertIsNone(needed_names(read_problem(text), 0, 500))
        self.assertEqual(needed_names(read_problem(text), 1, 500), ["a1", "a2", "goal"])

    def test_needed_drawn(self):
        """What is left clashes, none of it can go; it is what the way through the list leaves."""
        chance = random.Random(47)
        met = 0
        for _ in range(150):
            problem = drawn_problem(chance)
            if count_instances(clauses_of(problem), 1) > 150:
                continue
            theory = problem.theory()

            def clash(lot):
                axioms = [axiom for axiom in theory.axioms() if axiom[0] in lot]
                form = Form(Theory(theory.names(), axioms), problem.goal() if "goal" in lot else None)
                return least_depth([clause for _, clause in form.clauses()], 1, 10 ** 6) is not None

            kept = sorted(name for name, _ in theory.axioms()) + ["goal"]
            told = needed_names(problem, 1, 150)
            if not clash(kept):
                self.assertIsNone(told)
                continue
            met += 1
            for name in kept[::-1]:
                if clash([other for other in kept if other != name]):
                    kept = [other for other in kept if other != name]
            self.assertEqual(told, kept)
        self.assertGreater(met, 30)

    def test_atoms_known(self):
        self.assertEqual(kinds(atoms_known(PM.theory(), 0, [MORTAL, MAN], 500)), kinds(["follows", "follows"]))
        self.assertEqual(atoms_known(PM.theory(), 0, [], 0), [])
        self.assertEqual(atoms_known(PM.theory(), 0, as_lists([("=", SOC, SOC), MAN]), 500), ["follows", "follows"])
        text = "function c 0\nfunction d 0\npredicate p 1\naxiom a1: p(c)\naxiom a2: all X: (p(X) then X = c)\ngoal: p(c)\n"
        theory = read_problem(text).theory()
        c, d = ("c",), ("d",)
        self.assertEqual(atoms_known(theory, 0, [("p", c), ("p", d), ("=", c, d), ("=", d, d)], 50), ["follows", "open", "open", "follows"])
        more = Theory(theory.names(), theory.axioms() + [("a3", ("not", ("=", c, d)))])
        self.assertEqual(atoms_known(more, 0, [("p", d), ("=", d, c), ("p", c)], 50), ["denied", "denied", "follows"])
        none = Theory(theory.names(), theory.axioms() + [("a3", ("not", ("p", c)))])
        self.assertEqual(atoms_known(none, 0, [("p", d), ("=", c, d)], 50), ["follows", "follows"])

    def test_bad_atoms(self):
        theory = PM.theory()
        for bad in (None, 5, {}, "", True):
            self.caught_at(BadAtoms, 0, lambda: atoms_known(theory, 0, bad, None))
        for bad in (None, 5, "man", (), ("man",), ("man", "X"), ("man", SOC, SOC), ("men", SOC), ("=", SOC), ("=", SOC, "X"), ("not", MAN), ("man", ("sok",)), SOC, ("man", ("soc", SOC)), (True, MAN)):
            self.caught_at(BadAtoms, 1, lambda: atoms_known(theory, 0, [MAN, bad, None], None))

    def test_errors(self):
        self.check_problem_errors(lambda problem, depth: needed_names(problem, depth, None))
        for bad in (None, -1, True, "0", []):
            self.caught(BadBound, lambda thing: needed_names(PM, 0, thing), bad)
            self.caught(BadBound, lambda thing: atoms_known(PM.theory(), 0, [], thing), bad)
            self.caught(BadDepth, lambda thing: atoms_known(PM.theory(), thing, None, None), bad)
        for bad in (None, 5, M, PM, []):
            self.caught(BadTheory, lambda thing: atoms_known(thing, None, None, None), bad)
        many = count_instances(clauses_of(PN), 1)
        with self.assertRaises(Crowded) as caught:
            needed_names(PN, 1, many - 1)
        self.assertEqual(caught.exception.many, many)
        self.assertIsNone(needed_names(PN, 1, many))
        theory = Theory(Names([("c", 0), ("d", 0)], [("p", 1)]), [("a1", ("all", "X", ("all", "Y", ("then", ("p", "X"), ("p", "Y")))))])
        atoms = [("p", ("c",)), ("=", ("c",), ("d",)), ("p", ("d",))]
        self.assertEqual(atoms_known(theory, 0, atoms, 5), ["open", "open", "open"])
        with self.assertRaises(Crowded) as caught:
            atoms_known(theory, 0, atoms, 4)
        self.assertEqual(caught.exception.many, 5)
        with self.assertRaises(Crowded) as caught:
            atoms_known(theory, 0, atoms, 1)
        self.assertEqual(caught.exception.many, 2)

    def test_atoms_drawn(self):
        """In each world of the theory what follows is true, what is denied is false."""
        chance = random.Random(48)
        met = {}
        for _ in range(120):
            problem = drawn_problem(chance)
            theory = problem.theory()
            if ("c", 0) not in theory.names().functions() or count_instances(clauses_of(problem), 0) > 150:
                continue
            atoms = [(name,) + (("c",),) * arity for name, arity in theory.names().predicates()] + [("=", ("c",), ("c",))]
            told = atoms_known(theory, 0, atoms, 10 ** 5)
            for atom, word in zip(atoms, told):
                met[word] = met.get(word, 0) + 1
                for number in range(min(200, count_worlds(theory.names(), 2))):
                    world = world_at(theory.names(), 2, number)
                    if first_false(world, theory) is None:
                        self.assertFalse(word == "follows" and not holds(world, atom))
                        self.assertFalse(word == "denied" and holds(world, atom))
                plain = [least_depth([clause for _, clause in Form(theory, goal).clauses()], 0, 10 ** 5) for goal in (atom, ("not", atom))]
                self.assertEqual(word, "follows" if plain[0] == 0 else "denied" if plain[1] == 0 else "open")
        self.assertEqual(len(met), 3)


if __name__ == "__main__":
    unittest.main()
