"""Single steps of derivations and their checker: [44] to [47], [51]."""

import copy
import random
import unittest

from eithershown.checking import derivation_fault, is_refutation
from eithershown.errors import BadAtom, BadClause, BadClauses, BadLiteral, BadPlace, BadSubstitution, BadWord
from eithershown.meaning import false_giving
from eithershown.steps import instance_of, literal_at, literal_with, replaced, resolved, same_gone
from tests.making import (SMALL, THINGS, as_lists, as_tuples, kinds, some_clause, some_row, some_substitution, some_word,
                          some_world)

C, D = ("c",), ("d",)
FC = ("f", C)
PX, PC, Q = ("p", "X"), ("p", C), ("q",)
NO_CLAUSES = (None, "", {}, 5, [PX], [(1, PX)], [(True, "X")], [(True, PX, 1)], [(True, ("not", PX))], [None], [(None, Q)])
NO_WORDS = (None, 5, "c", (), [], ("X",), ("f", None), ("=", C, C), {}, True)
NO_ATOMS = (None, 5, "X", "p", (), ("P",), ("=", C), ("p", None), ("not", PX), ("p", ("=", C, C)), {}, (True, PX))
NO_PLACES = (None, 5, "0", {}, [], (), [None], [-1], [True], [[0]], ["0"])


def equal(one, other):
    return ("=", one, other)


class StepTests(unittest.TestCase):
    def caught(self, error, ask, thing):
        with self.assertRaises(error) as caught:
            ask(thing)
        self.assertIs(caught.exception.thing, thing)

    def test_instance_of(self):
        clause = [(False, PX), (True, ("r", "X", "Y")), (False, ("p", "Y"))]
        self.assertEqual(instance_of(clause, {"X": "Y", "Y": C}), [(False, ("p", "Y")), (True, ("r", "Y", C)), (False, PC)])
        self.assertEqual(instance_of(clause, {"X": C, "Y": C}), [(False, PC), (True, ("r", C, C))])
        self.assertEqual(kinds(instance_of(as_tuples(clause), {"X": ["c"], "Y": ["c"]})),
                         kinds([(False, PC), (True, ("r", C, C))]))
        self.assertEqual(instance_of([(True, PX), (True, PX)], {}), [(True, PX)])
        self.assertEqual(instance_of([], {"X": C}), [])
        for thing in NO_CLAUSES:
            self.caught(BadClause, lambda bad: instance_of(bad, None), thing)
        for thing in (None, [], "X", {"x": C}, {"X": "c"}, {1: C}, {"X": equal(C, C)}):
            self.caught(BadSubstitution, lambda bad: instance_of(clause, bad), thing)

    def test_literal_at(self):
        literal = (False, ("r", ("f", "X"), ("g", C, "Y")))
        for place, word in (([0], ("f", "X")), ([0, 0], "X"), ((1, 0), C), ([1, 1], "Y"), ([2], None), ([0, 1], None), ([0, 0, 0], None),
                            ([1, 0, 0], None), ([9], None)):
            self.assertEqual(literal_at(as_lists(literal), place), word)
        self.assertEqual(literal_at((True, equal("X", C)), [1]), C)
        self.assertIsNone(literal_at((True, Q), [0]))
        for thing in (None, PX, (1, PX), (True, "X"), (True,), [], "", (True, PX, PX), (True, ("p", None)), (True, ("r", "X", None))):
            self.caught(BadLiteral, lambda bad: literal_at(bad, None), thing)
            self.caught(BadLiteral, lambda bad: literal_with(bad, None, None), thing)
        for thing in NO_PLACES:
            self.caught(BadPlace, lambda bad: literal_at(literal, bad), thing)
            self.caught(BadPlace, lambda bad: literal_with(literal, bad, None), thing)

    def test_literal_with(self):
        literal = (False, ("r", ("f", "X"), C))
        self.assertEqual(literal_with(literal, [0, 0], ["c"]), (False, ("r", FC, C)))
        self.assertEqual(kinds(literal_with(as_lists(literal), (1,), "Y")), kinds((False, ("r", ("f", "X"), "Y"))))
        self.assertEqual(literal_with((True, equal(C, C)), [0], "X"), (True, equal("X", C)))
        self.assertIsNone(literal_with(literal, [2], C))
        self.assertIsNone(literal_with(literal, [1, 0], C))
        for thing in NO_WORDS:
            self.caught(BadWord, lambda bad: literal_with(literal, [7], bad), thing)

    def test_resolved(self):
        one = [(True, PX), (True, Q), (True, PC)]
        other = [(False, Q), (False, PC), (True, Q), (True, PX)]
        self.assertEqual(resolved(one, other, PC), [(True, PX), (True, Q), (False, Q)])
        self.assertEqual(resolved(as_lists(one), as_lists(other), as_lists(PC)), [(True, PX), (True, Q), (False, Q)])
        self.assertEqual(kinds(resolved([[True, ["q"]]], [[False, ["q"]]], ["q"])), kinds([]))
        self.assertEqual(resolved([(True, Q), (True, Q)], [(False, Q), (True, PC), (False, Q)], Q), [(True, PC)])
        self.assertEqual(resolved([(True, Q), (False, Q)], [(False, Q), (True, Q)], Q), [(False, Q), (True, Q)])
        self.assertIsNone(resolved(other, one, PC))
        self.assertIsNone(resolved([(True, PX)], [(False, PX)], PC))
        self.assertIsNone(resolved([], [(False, PX)], PX))
        for thing in NO_CLAUSES:
            self.caught(BadClause, lambda bad: resolved(bad, None, None), thing)
            self.caught(BadClause, lambda bad: resolved(one, bad, None), thing)
        for thing in NO_ATOMS:
            self.caught(BadAtom, lambda bad: resolved(one, other, bad), thing)

    def test_replaced(self):
        literal = (False, ("r", FC, C))
        for one in ([(True, equal(C, D)), (True, Q)], [(True, Q), (True, equal(D, C))]):
            self.assertEqual(replaced(one, [(True, PX), literal], C, D, literal, [0, 0]),
                             [(True, Q), (True, PX), (False, ("r", ("f", D), C))])
        both = [(True, equal(D, C)), (True, equal(C, D))]
        self.assertEqual(replaced(both, [literal], C, D, literal, [1]), [(True, equal(D, C)), (False, ("r", FC, D))])
        self.assertEqual(replaced(both, [literal], C, D, literal, [1])[1:], [(False, ("r", FC, D))])
        told = replaced(as_lists(both), as_lists([literal, literal]), ["c"], ["d"], as_lists(literal), (1,))
        self.assertEqual(kinds(told), kinds([(True, equal(D, C)), (False, ("r", FC, D))]))
        done = (False, ("r", FC, D))
        self.assertEqual(replaced([(True, equal(C, D)), done], [literal, (True, Q)], C, D, literal, [1]), [done, (True, Q)])

    def test_replaced_is_none(self):
        one, literal = [(True, equal(C, D))], (True, ("r", C, FC))
        for told in (replaced([(False, equal(C, D))], [literal], C, D, literal, [0]), replaced(one, [literal], C, FC, literal, [0]),
                     replaced(one, [(False, literal[1])], C, D, literal, [0]), replaced(one, [literal], C, D, literal, [1]),
                     replaced(one, [literal], C, D, literal, [2]), replaced(one, [literal], C, D, literal, [0, 0]),
                     replaced(one, [literal], D, C, literal, [0]), replaced([], [literal], C, D, literal, [0])):
            self.assertIsNone(told)

    def test_replaced_errors_in_order(self):
        one, literal = [(True, equal(C, D))], (True, ("r", C, FC))
        for thing in NO_CLAUSES:
            self.caught(BadClause, lambda bad: replaced(bad, None, None, None, None, None), thing)
            self.caught(BadClause, lambda bad: replaced(one, bad, None, None, None, None), thing)
        for thing in NO_WORDS:
            self.caught(BadWord, lambda bad: replaced(one, one, bad, None, None, None), thing)
            self.caught(BadWord, lambda bad: replaced(one, one, C, bad, None, None), thing)
        for thing in (None, PX, (1, PX), (True, "X")):
            self.caught(BadLiteral, lambda bad: replaced(one, one, C, C, bad, None), thing)
        for thing in NO_PLACES:
            self.caught(BadPlace, lambda bad: replaced(one, one, C, C, literal, bad), thing)

    def test_same_gone(self):
        clause = [(True, Q), (False, equal(C, C)), (True, PX), (False, equal(C, C)), (True, Q)]
        self.assertEqual(same_gone(clause, ["c"]), [(True, Q), (True, PX)])
        self.assertIsNone(same_gone(clause, "X"))
        self.assertIsNone(same_gone([(True, equal(C, C))], C))
        self.assertIsNone(same_gone([(False, equal(C, D))], C))
        for thing in NO_CLAUSES:
            self.caught(BadClause, lambda bad: same_gone(bad, None), thing)
        for thing in NO_WORDS:
            self.caught(BadWord, lambda bad: same_gone(clause, bad), thing)

    def test_nothing_passed_is_changed_and_all_is_new(self):
        chance = random.Random(16)
        for _ in range(50):
            clause = some_clause(chance, SMALL, 4)
            passed = (as_lists(clause), some_substitution(chance, SMALL))
            before = copy.deepcopy(passed)
            told = instance_of(*passed)
            self.assertEqual(passed, before)
            told.append(None)
            self.assertEqual(instance_of(*passed), told[:-1])


CLAUSES = [[(False, PX), (True, ("p", ("f", "X")))], [(True, PC)], [(False, ("p", ("f", FC)))]]
REFUTATION = [
    ("given", [1], [], None, CLAUSES[1]),
    ("given", [0], [], None, CLAUSES[0]),
    ("resolve", [0, 1], [{}, {"X": C}], PC, [(True, ("p", FC))]),
    ("resolve", [2, 1], [{}, {"X": FC}], ("p", FC), [(True, ("p", ("f", FC)))]),
    ("given", [2], [], None, CLAUSES[2]),
    ("resolve", [3, 4], [{}, {}], ("p", ("f", FC)), []),
]
# Clauses from which each rule has a right row.
GIVEN = [[(True, equal("X", C)), (True, Q)], [(False, ("r", FC, "X")), (False, equal("X", "X"))], [(False, Q)]]
AHEAD = [("given", [0], [], None, GIVEN[0]), ("given", [1], [], None, GIVEN[1]), ("given", [2], [], None, GIVEN[2])]
LITERAL = (False, ("r", FC, D))
RIGHT = {
    "given": ("given", [1], [], None, GIVEN[1][::-1]),
    "instance": ("instance", [0], [{"X": D, "Z": C}], None, [(True, equal(D, C)), (True, Q)]),
    "resolve": ("resolve", [0, 2], [{"X": D}, {}], Q, [(True, equal(D, C))]),
    "replace": ("replace", [0, 1], [{"X": D}, {"X": D}], (C, D, LITERAL, [0, 0]),
                [(False, equal(D, D)), (True, Q), (False, ("r", ("f", D), D))]),
    "same": ("same", [1], [{"X": C}], C, [(False, ("r", FC, C))]),
    "alike": ("alike", [], [], ("f", "X"), [(True, equal(("f", "X"), ("f", "X")))]),
    "either": ("either", [], [], PX, [(False, PX), (True, PX)]),
    "turned": ("turned", [], [], ("X", C), [(True, equal(C, "X")), (False, equal("X", C))]),
    "chained": ("chained", [], [], ("X", C, D), [(False, equal("X", C)), (False, equal(C, D)), (True, equal("X", D))]),
    "parts": ("parts", [], [], (("g", "X", C), ("g", C, D)),
              [(False, equal("X", C)), (False, equal(C, D)), (True, equal(("g", "X", C), ("g", C, D)))]),
    "holds": ("holds", [], [], (("r", "X", C), ("r", C, D)),
              [(False, equal("X", C)), (False, equal(C, D)), (False, ("r", "X", C)), (True, ("r", C, D))]),
}


class CheckerTests(unittest.TestCase):
    def fault(self, row):
        fault = derivation_fault(GIVEN, AHEAD + [row])
        if fault is not None:
            self.assertEqual(fault[0], 3)
            self.assertIsInstance(fault, tuple)
            return fault[1]
        return None

    def test_example(self):
        self.assertIsNone(derivation_fault(CLAUSES, REFUTATION))
        self.assertTrue(is_refutation(CLAUSES, REFUTATION))
        self.assertTrue(is_refutation(as_lists(CLAUSES), as_lists(REFUTATION)))
        self.assertTrue(is_refutation(as_tuples(CLAUSES), as_tuples(REFUTATION)))
        self.assertIsNone(derivation_fault(CLAUSES, REFUTATION[:5]))
        self.assertFalse(is_refutation(CLAUSES, REFUTATION[:5]))
        self.assertFalse(is_refutation(CLAUSES, REFUTATION[1:]))
        self.assertEqual(derivation_fault(CLAUSES, REFUTATION[1:]), (1, "ahead"))

    def test_empty(self):
        self.assertIsNone(derivation_fault([], []))
        self.assertFalse(is_refutation([], []))
        self.assertTrue(is_refutation([[]], [("given", [0], [], None, [])]))

    def test_each_rule_has_a_right_row(self):
        for rule, row in RIGHT.items():
            self.assertIsNone(self.fault(row), rule)
            self.assertIsNone(self.fault(as_lists(row)), rule)
            self.assertIsNone(self.fault(as_tuples(row)), rule)
            rule, premises, substitutions, spot, clause = row
            self.assertIsNone(self.fault((rule, premises, substitutions, spot, clause[::-1] + clause)), rule)

    def test_clause(self):
        for rule, row in RIGHT.items():
            clause = row[4]
            for wrong in (clause[1:], clause[:-1], clause + [(True, ("q", "X"))], [(not clause[0][0], clause[0][1])] + clause[1:]):
                self.assertEqual(self.fault(row[:4] + (wrong,)), "clause", rule)
            for wrong in (None, "", {}, [Q], [(1, Q)], [(True, "X")]):
                self.assertEqual(self.fault(row[:4] + (wrong,)), "form", rule)

    def test_form_of_each_part(self):
        for rule, row in RIGHT.items():
            for bad in (None, "", 5, row[:4], row + (None,), {}, len):
                self.assertEqual(self.fault(bad), "form", rule)
            for bad in ("", "Given", None, 5, [], ("given",), "put", b"given"):
                self.assertEqual(self.fault((bad,) + row[1:]), "form", rule)
            premises = row[1]
            for bad in (None, "", {}, premises + [0], [0, 0, 0], [-1] * len(premises) or [0], [True] * len(premises) or None,
                        ["0"] * len(premises) or 0, [None] * len(premises) or 1):
                self.assertEqual(self.fault((rule, bad) + row[2:]), "form", (rule, bad))
            for bad in (None, "", {}, row[2] + [{}], [{}] * 3, [None] * len(row[2]) or 0, [{"X": "c"}] * len(row[2]) or 5,
                        [{"x": C}] * len(row[2]) or [0], [[]] * len(row[2]) or [{}]):
                self.assertEqual(self.fault(row[:2] + (bad,) + row[3:]), "form", (rule, bad))
            if len(premises) > 0:
                self.assertEqual(self.fault((rule, premises[1:]) + row[2:]), "form", rule)

    def test_form_of_spots(self):
        bad_words = [bad for bad in NO_WORDS if bad is not None] + [None]
        for bad in (C, 0, "", [], (), False):
            self.assertEqual(self.fault(("given", [1], [], bad, GIVEN[1])), "form")
            self.assertEqual(self.fault(RIGHT["instance"][:3] + (bad,) + RIGHT["instance"][4:]), "form")
        for rule in ("same", "alike"):
            for bad in bad_words:
                self.assertEqual(self.fault(RIGHT[rule][:3] + (bad,) + RIGHT[rule][4:]), "form", (rule, bad))
        for rule in ("resolve", "either"):
            for bad in NO_ATOMS:
                self.assertEqual(self.fault(RIGHT[rule][:3] + (bad,) + RIGHT[rule][4:]), "form", (rule, bad))
        for rule in ("turned", "chained", "parts", "holds", "replace"):
            row = RIGHT[rule]
            for at in range(len(row[3])):
                is_atom, is_literal, is_place = rule == "holds", (rule, at) == ("replace", 2), (rule, at) == ("replace", 3)
                wrong = NO_ATOMS if is_atom else NO_PLACES if is_place else (PX, None, (1, PX), "X") if is_literal else bad_words
                for bad in wrong:
                    spot = row[3][:at] + (bad,) + row[3][at + 1:]
                    self.assertEqual(self.fault(row[:3] + (spot,) + row[4:]), "form", (rule, at, bad))
            for bad in (None, "", {}, row[3][1:], row[3] + row[3][:1], C):
                self.assertEqual(self.fault(row[:3] + (bad,) + row[4:]), "form", (rule, bad))

    def test_ahead(self):
        for rule, row in RIGHT.items():
            for at in range(len(row[1])):
                premises = row[1][:at] + [3] + row[1][at + 1:]
                self.assertEqual(self.fault((rule, premises) + row[2:]), "ahead", rule)
                self.assertEqual(self.fault((rule, premises) + row[2:4] + ([(True, ("z",))],)), "ahead", rule)
                premises = row[1][:at] + [10 ** 15] + row[1][at + 1:]
                self.assertEqual(self.fault((rule, premises) + row[2:]), "ahead", rule)
        self.assertEqual(derivation_fault([[]], [("instance", [0], [{}], None, [])]), (0, "ahead"))
        self.assertEqual(derivation_fault([], [("given", [0], [], None, [])]), (0, "ahead"))

    def test_spot(self):
        row = RIGHT["resolve"]
        for spot in (PX, equal(D, C), ("z",)):
            self.assertEqual(self.fault(row[:3] + (spot,) + row[4:]), "spot")
        self.assertEqual(self.fault(("resolve", [2, 0], [{}, {"X": D}]) + row[3:]), "spot")
        row = RIGHT["replace"]
        for spot in ((C, FC, LITERAL, [0, 0]), (D, C, LITERAL, [0, 0]), (C, D, LITERAL, [0]), (C, D, LITERAL, [7]),
                     (C, D, (True, LITERAL[1]), [0, 0]), (C, D, LITERAL, [0, 0, 0])):
            self.assertEqual(self.fault(row[:3] + (spot,) + row[4:]), "spot", spot)
        row = RIGHT["same"]
        for spot in (D, "X", FC):
            self.assertEqual(self.fault(row[:3] + (spot,) + row[4:]), "spot")
        for spot in ((C, D), ("X", "X"), ("X", C), (C, "X"), (FC, ("f", C, C)), (("f", C), ("h", C))):
            self.assertEqual(self.fault(("parts", [], [], spot, [])), "spot", spot)
        for spot in ((PX, Q), (PX, ("p", "X", "X")), (equal(C, D), equal(C, D)), (equal(C, D), PX), (PX, equal(C, D))):
            self.assertEqual(self.fault(("holds", [], [], spot, [])), "spot", spot)

    def test_parts_of_constants_and_holds_of_flat_atoms(self):
        self.assertIsNone(self.fault(("parts", [], [], (C, C), [(True, equal(C, C))])))
        self.assertIsNone(self.fault(("holds", [], [], (Q, Q), [(True, Q), (False, Q)])))

    def test_the_first_wrong_row(self):
        rows = list(AHEAD) + [RIGHT["same"]]
        rows[2] = ("given", [2], [], None, [])
        rows.append(None)
        self.assertEqual(derivation_fault(GIVEN, rows), (2, "clause"))
        rows[2] = ("given", [2], [], None, GIVEN[2])
        self.assertEqual(derivation_fault(GIVEN, rows), (4, "form"))

    def test_wrong_clauses_first(self):
        for ask in (derivation_fault, is_refutation):
            for thing in (None, "", {}, 5):
                with self.assertRaises(BadClauses) as caught:
                    ask(thing, None)
                self.assertEqual(caught.exception.index, 0)
            for bad in NO_CLAUSES:
                with self.assertRaises(BadClauses) as caught:
                    ask([[], [(True, Q)], bad, bad], None)
                self.assertEqual(caught.exception.index, 2)

    def test_any_object(self):
        for thing in THINGS:
            self.assertFalse(is_refutation(GIVEN, thing))
            if isinstance(thing, (list, tuple)):
                self.assertEqual(derivation_fault(GIVEN, thing), (0, "form") if len(thing) > 0 else None)
            else:
                self.assertEqual(derivation_fault(GIVEN, thing), ("form",))

    def test_what_is_right_holds(self):
        """Right rows that come by chance hold wherever the clauses do."""
        chance = random.Random(17)
        worlds = [some_world(chance, SMALL, many) for many in (1, 2, 2)]
        for _ in range(150):
            clauses = [some_clause(chance, SMALL, 3) for _ in range(3)]
            rows = [("given", [index], [], None, clauses[index]) for index in range(3)]
            for _ in range(6):
                rows.append(self.right_row(chance, rows))
            self.assertIsNone(derivation_fault(clauses, rows))
            for world in worlds:
                if not [clause for clause in clauses if false_giving(world, clause) is not None]:
                    for row in rows:
                        self.assertIsNone(false_giving(world, row[4]), row)

    def right_row(self, chance, rows):
        """A row that is right behind others, by the single steps."""
        while True:
            rule, premises, substitutions, spot, clause = some_row(chance, SMALL)
            premises = [chance.randrange(len(rows)) for _ in premises]
            parts = [instance_of(rows[index][4], words) for index, words in zip(premises, substitutions)]
            if rule == "instance":
                return (rule, premises, substitutions, spot, parts[0])
            if rule == "resolve" and parts[0]:
                spot = chance.choice(parts[0])[1]
                clause = resolved(parts[0], parts[1], spot)
                if clause is not None:
                    return (rule, premises, substitutions, spot, clause)
            if rule == "same":
                parts = [parts[0] + [(False, equal(spot, spot))]]
                if same_gone(instance_of(rows[premises[0]][4], substitutions[0]), spot) is not None:
                    return (rule, premises, substitutions, spot, same_gone(parts[0], spot))
            if rule == "alike":
                return (rule, premises, substitutions, spot, [(True, equal(spot, spot))])
            if rule == "chained":
                return (rule, [], [], spot, [(False, equal(spot[0], spot[1])), (False, equal(spot[1], spot[2])),
                                             (True, equal(spot[0], spot[2]))])
            if rule == "parts":
                words = [some_word(chance, SMALL, 1, ("X", "Y")) for _ in range(4)]
                spot = (("g", words[0], words[1]), ("g", words[2], words[3]))
                return (rule, [], [], spot, [(False, equal(words[0], words[2])), (False, equal(words[1], words[3])),
                                             (True, equal(spot[0], spot[1]))])

    def test_nothing_passed_is_changed(self):
        passed = (as_lists(GIVEN), as_lists(AHEAD + list(RIGHT.values())))
        before = copy.deepcopy(passed)
        self.assertIsNone(derivation_fault(*passed))
        self.assertEqual(passed, before)


if __name__ == "__main__":
    unittest.main()
