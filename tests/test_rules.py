"""Rules, meetings, chains of equations, equations completed: [75] to [79]."""

import copy
import itertools
import random
import unittest

from eithershown.classing import classes
from eithershown.completing import chains_for, complete
from eithershown.errors import BadEquations, BadNumber, BadOrder, BadRules, BadWord, NotComplete
from eithershown.meaning import value
from eithershown.meetings import meetings, unjoined
from eithershown.orders import Order, compare
from eithershown.puts import match, put
from eithershown.rewriting import last_form, steps_at
from eithershown.signatures import Names
from eithershown.unifying import unify
from eithershown.wordchains import equal_by, is_word_chain
from eithershown.words import places, variables_of, word_at, word_put
from eithershown.writing import written
from tests.making import THINGS, as_lists, as_tuples, kinds, some_word, some_world
from tests.test_ground import A, B, C, Case, f, flat, g

ORDER = Order([("a", 1), ("b", 1), ("c", 1), ("f", 1), ("h", 1), ("g", 1)])
NAMES = Names([("a", 0), ("b", 0), ("c", 0), ("f", 1), ("h", 1), ("g", 2)], [])
TWICE = [(f(f("X")), ("h", "X"))]


def h(word):
    return ("h", word)


DONE = [(f(f("V0")), h("V0")), (h(f("V0")), f(h("V0")))]


def plain_steps(rules, word):
    told = []
    for place in places(word):
        for index, (first, second) in enumerate(rules):
            words = match(first, word_at(word, place))
            if words is not None:
                told.append(((index, place, words), word_put(word, place, put(second, words))))
    return told


def told(pair):
    letters = []
    for word in pair:
        letters.extend([letter for letter in variables_of(word) if letter not in letters])
    calls = {letter: f"V{at}" for at, letter in enumerate(letters)}
    return (put(pair[0], calls), put(pair[1], calls))


def plain_meetings(rules):
    rows = []
    for (at, one), (later, other) in itertools.product(enumerate(rules), repeat=2):
        calls = {letter: "U" + str(index) for index, letter in enumerate(variables_of(other[0]))}
        apart = (put(other[0], calls), put(other[1], calls))
        for place in places(one[0]):
            if not isinstance(word_at(one[0], place), str) and (at != later or place != []):
                words = unify([(word_at(one[0], place), apart[0])])
                if words is not None:
                    rows.append((at, later, place, told((put(one[1], words), put(word_put(one[0], place, apart[1]), words)))))
    return rows


def drawn_rules(chance, many, variables=("X", "Y")):
    rules = []
    while len(rules) < many:
        pair = (some_word(chance, NAMES, 2, variables), some_word(chance, NAMES, 2, variables))
        way = compare(ORDER, *pair)
        if way in ("above", "below"):
            rules.append(pair if way == "above" else pair[::-1])
    return rules


class RuleCase(Case):
    def check_order_errors(self, ask):
        for bad in (None, 5, "order", [], [("a", 1)], NAMES):
            self.caught(BadOrder, ask, bad)

    def check_rule_errors(self, ask):
        """For all that has an order and rules."""
        self.check_order_errors(lambda thing: ask(thing, None))
        for bad in (None, 5, {}, "", True):
            self.caught_at(BadRules, 0, lambda: ask(ORDER, bad))
        for bad in (None, 5, (), (f(A),), (f(A), A, A), (A, f(A)), (A, A), (f("X"), f("Y")), (g("X", "Y"), g("Y", "X")), (("k",), A), (f(("k",)), A), (g(f(f("X")), A), ("k",)),
                    ("X", "Y"), (f(A), None), (f(A), "x"), (("=", f(A), A), A), (f("X"), "Y"), f(A), (f("X"), g("X", "X"))):
            self.caught_at(BadRules, 1, lambda: ask(ORDER, [(f(A), A), bad, None]))
            self.caught_at(BadRules, 0, lambda: ask(ORDER, as_lists([bad, bad])))


class StepTests(RuleCase):
    def test_small_ones(self):
        self.assertEqual(kinds(steps_at(ORDER, TWICE, f(f(f(A))))), kinds([((0, [], {"X": f(A)}), h(f(A))), ((0, [0], {"X": A}), f(h(A)))]))
        self.assertEqual(steps_at(ORDER, TWICE, f(A)), [])
        self.assertEqual(steps_at(ORDER, [], f(f(A))), [])
        self.assertEqual(kinds(last_form(ORDER, TWICE, f(f(f(f(A)))))), kinds((h(h(A)), [(0, [], {"X": f(f(A))}), (0, [0], {"X": A})])))
        self.assertEqual(kinds(last_form(ORDER, TWICE, "Y")), kinds(("Y", [])))
        self.assertEqual(kinds(last_form(ORDER, as_lists(TWICE), as_lists(f(f("Y"))))), kinds((h("Y"), [(0, [], {"X": "Y"})])))
        # Places ahead of rules.
        rules = [(g("X", A), "X"), (f("X"), "X"), (g(A, "X"), A)]
        self.assertEqual(steps_at(ORDER, rules, g(A, A)), [((0, [], {"X": A}), A), ((2, [], {"X": A}), A)])
        self.assertEqual([step[:2] for step, _ in steps_at(ORDER, rules, f(g(f(A), A)))], [(1, []), (0, [0]), (1, [0, 0])])
        self.assertEqual(last_form(ORDER, rules, f(g(f(A), A))), (A, [(1, [], {"X": g(f(A), A)}), (0, [], {"X": f(A)}), (1, [], {"X": A})]))
        # A rule that needs like parts; variables of the word are no rule's.
        self.assertEqual(steps_at(ORDER, [(g("X", "X"), "X")], g("X", "Y")), [])
        self.assertEqual(steps_at(ORDER, [(g("X", "X"), "X")], g(f("Y"), f("Y"))), [((0, [], {"X": f("Y")}), f("Y"))])

    def test_errors(self):
        self.check_rule_errors(lambda order, rules: steps_at(order, rules, A))
        self.check_rule_errors(lambda order, rules: last_form(order, rules, A))

    def test_drawn(self):
        chance = random.Random(31)
        met = 0
        for _ in range(400):
            rules = drawn_rules(chance, chance.randrange(1, 5))
            word = some_word(chance, NAMES, 5, ())
            kept = copy.deepcopy((rules, word))
            steps = steps_at(ORDER, rules, word)
            self.assertEqual(kinds(steps), kinds(plain_steps(rules, word)))
            self.assertEqual(kinds(steps_at(ORDER, as_lists(rules), as_tuples(word))), kinds(steps))
            last, taken = last_form(ORDER, rules, word)
            now = word
            for step in taken:
                first = plain_steps(rules, now)[0]
                self.assertEqual(step, first[0])
                self.assertEqual(compare(ORDER, now, first[1]), "above")
                now = first[1]
            self.assertEqual(now, last)
            self.assertEqual(plain_steps(rules, last), [])
            self.assertEqual((rules, word), kept)
            met += len(taken) > 1
        self.assertGreater(met, 20)


class MeetingTests(RuleCase):
    def test_the_example(self):
        pair = (h(f("V0")), f(h("V0")))
        self.assertEqual(kinds(meetings(ORDER, TWICE)), kinds([(0, 0, [0], pair)]))
        self.assertEqual(kinds(unjoined(ORDER, TWICE)), kinds(((0, 0, [0], pair), pair)))
        self.assertIsNone(unjoined(ORDER, DONE))
        self.assertEqual(meetings(ORDER, []), [])
        self.assertIsNone(unjoined(ORDER, []))

    def test_small_ones(self):
        # Of two rules the whole meets, of one with itself it does not; no meeting at variables.
        two = [(f(A), A), (f("X"), "X")]
        self.assertEqual(meetings(ORDER, two), [(0, 1, [], (A, A)), (1, 0, [], (A, A))])
        self.assertEqual(meetings(ORDER, [(g(g("X", "Y"), "Z"), g("X", g("Y", "Z")))])[0][2:],
                         ([0], (g(g("V0", "V1"), g("V2", "V3")), g(g("V0", g("V1", "V2")), "V3"))))
        self.assertEqual(unjoined(ORDER, [(f(A), B), (f("X"), "X")]), ((0, 1, [], (B, A)), (B, A)))
        self.assertEqual(meetings(ORDER, [(f(A), B), (g(A, "X"), f("X"))]), [])
        self.assertEqual(meetings(ORDER, [(g(f("X"), "Y"), "Y"), (f(B), A)]), [(0, 1, [0], ("V0", g(A, "V0")))])

    def test_drawn(self):
        chance = random.Random(32)
        met = 0
        for _ in range(300):
            rules = drawn_rules(chance, chance.randrange(1, 4))
            kept = copy.deepcopy(rules)
            rows = meetings(ORDER, rules)
            self.assertEqual(kinds(rows), kinds(plain_meetings(rules)))
            self.assertEqual(kinds(meetings(ORDER, as_lists(rules))), kinds(rows))
            first = None
            for row in rows:
                lasts = (last_form(ORDER, rules, row[3][0])[0], last_form(ORDER, rules, row[3][1])[0])
                if first is None and lasts[0] != lasts[1]:
                    first = (row, lasts)
            self.assertEqual(kinds(unjoined(ORDER, rules)), kinds(first))
            self.assertEqual(rules, kept)
            met += len(rows) > 0
        self.assertGreater(met, 50)

    def test_errors(self):
        self.check_rule_errors(meetings)
        self.check_rule_errors(unjoined)


class ChainTests(RuleCase):
    def test_equal_by(self):
        self.assertEqual(kinds(equal_by(ORDER, DONE, f(f(A)), h(A))), kinds(("chain", [(0, True, [], {"V0": A})])))
        self.assertEqual(kinds(equal_by(ORDER, DONE, h(A), f(f(A)))), kinds(("chain", [(0, False, [], {"V0": A})])))
        self.assertEqual(kinds(equal_by(ORDER, DONE, f(f(f(A))), h(A))), kinds(("unlike", f(h(A)), h(A))))
        self.assertEqual(equal_by(ORDER, DONE, "X", "X"), ("chain", []))
        self.assertEqual(equal_by(ORDER, DONE, "X", "Y"), ("unlike", "X", "Y"))
        self.check_rule_errors(lambda order, rules: equal_by(order, rules, A, A))
        with self.assertRaises(NotComplete) as caught:
            equal_by(ORDER, TWICE, A, A)
        self.assertEqual(kinds(caught.exception.meeting), kinds(unjoined(ORDER, TWICE)[0]))

    def test_is_word_chain(self):
        equations = [(g("X", "Y"), g("Y", "X")), (f("X"), A), (A, B)]
        good = [(0, True, [], {"X": A, "Y": f(C)}), (1, True, [0], {"X": C}), (1, False, [0], {"X": B}), (2, False, [0, 0], {})]
        for one, other, thing in ((g(A, f(C)), g(f(A), A), good), (A, A, []), ("X", "X", []), (g("Y", "X"), g("X", "Y"), [(0, True, [], {"X": "Y", "Y": "X"})]),
                                  (g("X", "Y"), g("Y", "X"), [(0, True, [], {})]), (f(A), A, [(1, True, [], {"X": A, "Z": B})]),
                                  (A, f("X"), [(1, False, [], {})])):
            self.assertIs(is_word_chain(equations, one, other, thing), True, thing)
            self.assertIs(is_word_chain(as_lists(equations), as_lists(one), as_lists(other), as_lists(thing)), True)
            self.assertIs(is_word_chain(as_tuples(equations), one, other, as_tuples(thing)), True)
        self.assertIs(is_word_chain(equations, g(A, f(C)), g(f(A), B), good), False)
        self.assertIs(is_word_chain(equations, A, B, []), False)
        row = (1, True, [0], {"X": C})
        for bad in ((3, True, [0], {"X": C}), (-1, True, [0], {"X": C}), (True, True, [0], {"X": C}), (1, 1, [0], {"X": C}), (1, None, [0], {"X": C}), (1, False, [0], {"X": C}),
                    (1, True, [1], {"X": C}), (1, True, [0, 0, 0], {"X": C}), (1, True, 0, {"X": C}), (1, True, [True], {"X": C}), (1, True, None, {"X": C}), (1, True, [-1], {"X": C}),
                    (1, True, [0], {"X": B}), (1, True, [0], {}), (1, True, [0], None), (1, True, [0], {"x": C}), (1, True, [0], {"X": None}), (1, True, [0]), (1, True, [0], {"X": C}, 0),
                    None, [], 5, "row"):
            self.assertIs(is_word_chain(equations, h(f(C)), h(A), [bad]), False, bad)
        self.assertIs(is_word_chain(equations, h(f(C)), h(A), [row]), True)
        self.assertIs(is_word_chain(equations, h(f(C)), h(A), [row, (2, True, [1], {}), (2, True, [0], {})]), False)
        self.assertIs(is_word_chain(equations, h(f(C)), h(B), [row, (2, True, [0], {})]), True)
        for bad in (None, 5, "a", (), ("a", None)):
            self.caught(BadWord, lambda thing: is_word_chain(equations, thing, A, []), bad)
            self.caught(BadWord, lambda thing: is_word_chain(equations, A, thing, []), bad)
        for thing in THINGS:
            if not isinstance(thing, (list, tuple)) or len(thing) > 0:
                self.assertIs(is_word_chain(equations, A, A, thing), False, thing)
        for bad in (None, 5, {}, "", True):
            self.caught_at(BadEquations, 0, lambda: is_word_chain(bad, A, A, []))
        for bad in (None, 5, (), (A,), (A, A, A), (A, None), (None, A), (A, "x"), (A, ("=", A, A)), ("a", "b")):
            self.caught_at(BadEquations, 1, lambda: is_word_chain([(A, B), bad, None], A, A, []))

    def test_drawn(self):
        """By complete rules words have a chain just if their last words are alike; chains' words tell alike in worlds."""
        chance = random.Random(33)
        met = [0, 0, 0]
        while min(met) < 40:
            rules = drawn_rules(chance, chance.randrange(1, 4))
            one, other = some_word(chance, NAMES, 3, ("X",)), some_word(chance, NAMES, 3, ("X",))
            if chance.random() < 0.5 and steps_at(ORDER, rules, one):
                other = chance.choice(steps_at(ORDER, rules, one))[1]
            if unjoined(ORDER, rules) is not None:
                met[2] += 1
                with self.assertRaises(NotComplete):
                    equal_by(ORDER, rules, one, other)
                continue
            kind = equal_by(ORDER, rules, one, other)
            lasts = [last_form(ORDER, rules, word)[0] for word in (one, other)]
            self.assertEqual(kinds(kind), kinds(equal_by(ORDER, as_lists(rules), as_lists(one), as_lists(other))))
            if lasts[0] == lasts[1]:
                met[0] += 1
                self.assertEqual(kind[0], "chain")
                self.assertTrue(is_word_chain(rules, one, other, kind[1]))
            else:
                met[1] += 1
                self.assertEqual(kind, ("unlike",) + tuple(lasts))
            # The order of steps is of no matter by complete rules.
            word = one
            while steps_at(ORDER, rules, word):
                word = chance.choice(steps_at(ORDER, rules, word))[1]
            self.assertEqual(word, lasts[0])


def row_words(equations, word, rows):
    """The words of a chain."""
    told = [word]
    for index, way, place, words in rows:
        pair = equations[index] if way else equations[index][::-1]
        told.append(word_put(told[-1], place, put(pair[1], words)))
    return told


def drawn_equations(chance, many, variables, deep=2):
    return [(some_word(chance, NAMES, deep, variables), some_word(chance, NAMES, deep, variables)) for _ in range(many)]


def texts(pair):
    return (written(pair[0]), written(pair[1]))


def plain_complete(order, equations, rounds):
    """The rounds as the document words them."""
    waiting, rules = [], []

    def wait(pair):
        if pair not in waiting:
            waiting.append(pair)

    for pair in equations:
        wait(told(pair))
    for _ in range(rounds):
        if not waiting:
            break
        waiting.sort(key=texts)
        one, other = [last_form(order, rules, word)[0] for word in waiting.pop(0)]
        way = compare(order, one, other)
        if way == "none":
            return ("bare", told((one, other)))
        if way != "same":
            new = told((one, other) if way == "above" else (other, one))
            again = [rule for rule in rules if steps_at(order, [new], rule[0])]
            rules = [rule for rule in rules if rule not in again] + [new]
            for rule in again:
                wait(rule)
            rules = [(first, last_form(order, rules, second)[0]) for first, second in rules]
            for row in meetings(order, rules):
                if len(rules) - 1 in row[:2]:
                    wait(row[3])
    if not waiting:
        return ("complete", sorted(rules, key=texts))
    return ("open", sorted(rules, key=texts), sorted(waiting, key=texts))


class CompletingTests(RuleCase):
    def test_the_examples(self):
        self.assertEqual(kinds(complete(ORDER, TWICE, 60)), kinds(("complete", DONE)))
        self.assertEqual(kinds(complete(ORDER, [(g("X", "Y"), g("Y", "X"))], 60)), kinds(("bare", (g("V0", "V1"), g("V1", "V0")))))
        chains = chains_for(ORDER, TWICE, 60)
        self.assertEqual(kinds(chains[0]), kinds([(0, True, [], {"X": "V0"})]))
        self.assertTrue(is_word_chain(TWICE, h(f("V0")), f(h("V0")), chains[1]))
        self.assertEqual(chains_for(ORDER, [(g("X", "Y"), g("Y", "X"))], 60), [])
        # The other way about, if h stands ahead of f.
        turned = Order([("a", 1), ("h", 1), ("f", 1)])
        self.assertEqual(complete(turned, TWICE, 60), ("complete", [DONE[0], DONE[1][::-1]]))

    def test_small_ones(self):
        self.assertEqual(complete(ORDER, [], 0), ("complete", []))
        self.assertEqual(chains_for(ORDER, [], 0), [])
        self.assertEqual(complete(ORDER, [(A, A), ("X", "X")], 9), ("complete", []))
        self.assertEqual(kinds(complete(ORDER, [(A, B)], 0)), kinds(("open", [], [(A, B)])))
        self.assertEqual(kinds(complete(ORDER, [(A, B)], 1)), kinds(("complete", [(B, A)])))
        self.assertEqual(complete(ORDER, [(A, B), (A, B)], 1), ("complete", [(B, A)]))
        self.assertEqual(complete(ORDER, [(A, B), (B, A)], 1), ("open", [(B, A)], [(B, A)]))
        self.assertEqual(complete(ORDER, [(A, B), (B, A)], 2), ("complete", [(B, A)]))
        self.assertEqual(complete(ORDER, [(f("Z"), "Z"), (f("Y"), "Y")], 1)[0], "complete")
        self.assertEqual(complete(ORDER, [("X", "Y")], 5), ("bare", ("V0", "V1")))
        self.assertEqual(complete(ORDER, [(f("X"), A)], 10 ** 9), ("complete", [(f("V0"), A)]))
        self.assertEqual(complete(ORDER, [(f("X"), f("Y"))], 5), ("bare", (f("V0"), f("V1"))))
        told_rules = complete(ORDER, [(B, C), (A, B), (f(C), B)], 60)
        self.assertEqual(told_rules, ("complete", [(B, A), (C, A), (f(A), A)]))
        # What waits when the rounds are done: the least goes first.
        self.assertEqual(complete(ORDER, [(f(C), B), (B, C), (A, C)], 1), ("open", [(C, A)], [(B, C), (f(C), B)]))
        # Elder rules whose first word is changed wait again; second words become last.
        self.assertEqual(complete(ORDER, [(A, g(B, B)), (B, A)], 1), ("open", [(g(B, B), A)], [(B, A)]))
        self.assertEqual(complete(ORDER, [(A, g(B, B)), (B, A)], 2), ("open", [(B, A)], [(g(B, B), A)]))
        self.assertEqual(complete(ORDER, [(A, g(B, B)), (B, A)], 3), ("complete", [(B, A), (g(A, A), A)]))
        self.assertEqual(complete(ORDER, [(B, f(C)), (B, A)], 2)[1], [(B, A), (f(C), A)])

    def test_all_meetings_wait(self):
        """Those of a new rule within elder ones, and of elder ones within it."""
        both = [(f(h("X")), A), (h(f("X")), A)]
        stand = [(f(h("V0")), A), (h(f("V0")), A)]
        for equations in (both, both[::-1]):
            self.assertEqual(complete(ORDER, equations, 2), ("open", stand, [(A, f(A)), (A, h(A))]))
            self.assertEqual(complete(ORDER, equations, 60), ("complete", [(f(A), A), stand[0], (h(A), A), stand[1]]))
        # A rule with itself, but not at its whole.
        self.assertEqual(complete(ORDER, [(f(f("X")), A)], 1), ("open", [(f(f("V0")), A)], [(A, f(A))]))
        self.assertEqual(complete(ORDER, [(g("X", f(f("X"))), B)], 1), ("complete", [(g("V0", f(f("V0"))), B)]))

    def check(self, equations, rounds):
        kept = copy.deepcopy(equations)
        done = complete(ORDER, equations, rounds)
        chains = chains_for(ORDER, equations, rounds)
        self.assertEqual(equations, kept)
        self.assertEqual(kinds(complete(ORDER, as_lists(equations), rounds)), kinds(done))
        self.assertEqual(kinds(chains_for(ORDER, as_tuples(equations), rounds)), kinds(chains))
        if done[0] == "bare":
            self.assertEqual(chains, [])
            self.assertEqual(compare(ORDER, *done[1]), "none")
            self.assertEqual(told(done[1]), done[1])
            return done
        self.assertEqual(done[1], sorted(done[1], key=lambda pair: (written(pair[0]), written(pair[1]))))
        self.assertEqual(len(chains), len(done[1]))
        for rule, chain in zip(done[1], chains):
            self.assertEqual(told(rule), rule)
            self.assertEqual(compare(ORDER, *rule), "above")
            self.assertTrue(is_word_chain(equations, rule[0], rule[1], chain), (equations, rule))
            self.assertTrue(all(list(row[3]) == sorted(row[3]) for row in chain))
            self.assertEqual(kinds(chain), kinds([(index, way, list(place), dict(words)) for index, way, place, words in chain]))
        if done[0] == "complete":
            self.assertEqual(len(done), 2)
            self.assertIsNone(unjoined(ORDER, done[1]))
            for one, other in equations:
                self.assertEqual(equal_by(ORDER, done[1], one, other)[0], "chain")
            for at, (first, second) in enumerate(done[1]):
                self.assertEqual(steps_at(ORDER, done[1], second), [])
                self.assertEqual([step[:2] for step, _ in steps_at(ORDER, done[1], first)], [(at, [])])
        else:
            self.assertEqual(done[0], "open")
            self.assertGreater(len(done[2]), 0)
            self.assertEqual(done[2], sorted(done[2], key=lambda pair: (written(pair[0]), written(pair[1]))))
            self.assertEqual([told(pair) for pair in done[2]], done[2])
        return done

    def test_drawn(self):
        chance = random.Random(34)
        met = {"complete": 0, "bare": 0, "open": 0}
        for _ in range(200):
            equations = drawn_equations(chance, chance.randrange(1, 4), ("X", "Y"))
            rounds = chance.choice([1, 3, 15])
            done = self.check(equations, rounds)
            self.assertEqual(kinds(done), kinds(plain_complete(ORDER, equations, rounds)))
            met[done[0]] += 1
        self.assertGreater(min(met.values()), 12)

    def test_one_in_whatever_order(self):
        """Complete rules are one, whatever order equations come in, and whichever way about."""
        chance = random.Random(35)
        met = 0
        for _ in range(120):
            equations = drawn_equations(chance, chance.randrange(1, 4), ("X",))
            done = complete(ORDER, equations, 40)
            if done[0] == "complete":
                for _ in range(3):
                    other = [pair[::chance.choice([1, -1])] for pair in chance.sample(equations, len(equations))]
                    again = complete(ORDER, other, 60)
                    if again[0] == "complete":
                        met += 1
                        self.assertEqual(again, done)
        self.assertGreater(met, 60)

    def test_ground_ones(self):
        """Ground equations are never bare; words in one class have like last forms."""
        chance = random.Random(36)
        for _ in range(100):
            equations = drawn_equations(chance, chance.randrange(1, 5), (), 1)
            done = self.check(equations, 60)
            self.assertEqual(done[0], "complete")
            standing = sorted({part for pair in equations for word in pair for part in flat(word)}, key=written)
            lots = classes(standing, equations)
            for one, other in itertools.combinations(standing, 2):
                together = any(one in lot and other in lot for lot in lots)
                self.assertEqual(together, last_form(ORDER, done[1], one)[0] == last_form(ORDER, done[1], other)[0])

    def test_chains_tell_alike(self):
        """In a world of the equations a chain's words tell alike."""
        chance = random.Random(37)
        met = 0
        for _ in range(1500):
            world = some_world(chance, NAMES, 2)
            equations = [pair for pair in drawn_equations(chance, 3, ("X",)) if all(value(world, pair[0], {"X": thing}) == value(world, pair[1], {"X": thing}) for thing in range(2))]
            done = complete(ORDER, equations, 10)
            if done[0] != "bare":
                for first, second in done[1]:
                    met += 1
                    self.assertTrue(all(value(world, first, {"V0": one, "V1": other}) == value(world, second, {"V0": one, "V1": other}) for one in range(2) for other in range(2)))
        self.assertGreater(met, 100)

    def test_groups(self):
        """Sixty rounds of what never ends within them."""
        order = Order([("e", 1), ("m", 1), ("i", 1)])

        def m(one, other):
            return ("m", one, other)
        e = ("e",)
        group = [(m(m("X", "Y"), "Z"), m("X", m("Y", "Z"))), (m(e, "X"), "X"), (m(("i", "X"), "X"), e)]
        done, chains = complete(order, group, 30), chains_for(order, group, 30)
        self.assertEqual(done[0], "open")
        self.assertIn((m(("i", "V0"), m("V0", "V1")), "V1"), done[1])
        for rule, chain in zip(done[1], chains):
            self.assertTrue(is_word_chain(group, rule[0], rule[1], chain))
            words = row_words(group, rule[0], chain)
            self.assertEqual(len(words), len(set(words)))

    def test_errors(self):
        for ask in (complete, chains_for):
            self.check_order_errors(lambda thing, ask=ask: ask(thing, None, None))
            for bad in (None, 5, {}, "", True):
                self.caught_at(BadEquations, 0, lambda ask=ask: ask(ORDER, bad, None))
            for bad in (None, 5, (), (A,), (A, A, A), (A, None), (None, A), (A, "x"), (A, ("=", A, A)), (A, ("k",)), (f(("k",)), A), ("a", "b"), (g("X", f(f(("zz", "X")))), A)):
                self.caught_at(BadEquations, 1, lambda ask=ask: ask(ORDER, [(A, B), bad, None], None))
            for bad in (None, -1, True, "1", []):
                self.caught(BadNumber, lambda thing, ask=ask: ask(ORDER, [(A, B)], thing), bad)

    def test_told_anew(self):
        one, other = complete(ORDER, TWICE, 9), complete(ORDER, TWICE, 9)
        self.assertIsNot(one[1], other[1])
        chains = chains_for(ORDER, TWICE * 2, 9)
        parts = [part for chain in chains for row in chain for part in (row[2], row[3])]
        self.assertEqual(len(parts), len({id(part) for part in parts}))


if __name__ == "__main__":
    unittest.main()
