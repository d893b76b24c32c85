"""The first wrong sign, held against a slow reader that goes on by all ways at once."""

import random
import unittest

from eithershown.clausetexts import clauses_fault, clauses_text, read_clauses
from eithershown.papertexts import (answer_fault, answer_text, derivation_text, derivation_text_fault, read_answer,
                                    read_derivation)
from eithershown.sentencetexts import read_sentence, sentence_fault, sentence_goes_on, sentence_text
from tests.making import (BARE, CLOSE, M_NAMES, NO_CONSTANT, SMALL, kinds, some_clause, some_open, some_row,
                          some_sentence)
from tests.oracle import Oracle, changed

SIGNS = "pqrcfgXY10(), =:\nanotlsme or then iff by"


class OracleTests(unittest.TestCase):
    def test_sentences(self):
        chance = random.Random(1)
        for names in (SMALL, NO_CONSTANT, M_NAMES, BARE, CLOSE):
            oracle = Oracle(names)
            for _ in range(250):
                sentence = some_sentence(chance, names, chance.randrange(4), ())
                text = sentence_text(sentence)
                self.assertEqual(read_sentence(names, text), sentence)
                self.assertIsNone(sentence_fault(names, text))
                for _ in range(4):
                    text = changed(chance, text, SIGNS)
                    fault = oracle.fault(("sentence", ()), text)
                    self.assertEqual(sentence_fault(names, text), fault, text)
                    self.check_goes_on(names, text, fault)

    def check_goes_on(self, names, text, fault):
        told = sentence_goes_on(names, text)
        ahead = text[:text.rfind("\n") + 1]
        behind = (ahead.count("\n") + 1, len(text) - len(ahead) + 1)
        if fault is None or fault == behind:
            self.assertTrue(told.startswith(text), text)
            self.assertIsNone(sentence_fault(names, told), told)
            self.assertLessEqual(len(told), 20000)
        else:
            self.assertIsNone(told, text)

    def test_sentences_goes_on_of_each_beginning(self):
        chance = random.Random(2)
        for names in (SMALL, NO_CONSTANT, BARE, CLOSE):
            for _ in range(40):
                text = sentence_text(some_sentence(chance, names, 4, ()))
                for at in range(len(text) + 1):
                    fault = sentence_fault(names, text[:at])
                    self.assertIn(fault, (None, (1, at + 1)))
                    self.check_goes_on(names, text[:at], fault)

    def compare(self, seed, names, start, make, tell, read, fault_of):
        chance = random.Random(seed)
        oracle = Oracle(names)
        for _ in range(200):
            paper = make(chance)
            text = tell(paper)
            told = read(names, text)
            self.assertEqual(told, paper)
            self.assertEqual(kinds(told), kinds(paper))
            self.assertEqual(tell(told), text)
            self.assertIsNone(fault_of(names, text))
            for _ in range(4):
                text = changed(chance, text, SIGNS)
                self.assertEqual(fault_of(names, text), oracle.fault(start, text), repr(text))

    def test_clauses(self):
        for names in (SMALL, NO_CONSTANT, CLOSE):
            self.compare(3, names, ("clauses",),
                         lambda chance: [some_clause(chance, names, 3) for _ in range(chance.randrange(3))],
                         clauses_text, read_clauses, clauses_fault)

    def test_derivations(self):
        for names in (SMALL, NO_CONSTANT, CLOSE):
            self.compare(4, names, ("rows",),
                         lambda chance: [some_row(chance, names) for _ in range(chance.randrange(4))],
                         derivation_text, read_derivation, derivation_text_fault)

    def test_refutations(self):
        self.compare(5, SMALL, ("follows",),
                     lambda chance: ("follows", 12, [some_row(chance, SMALL) for _ in range(chance.randrange(3))]),
                     answer_text, read_answer, self.fault_of_follows)

    def fault_of_follows(self, names, text):
        """The beginnings of other answers are left out."""
        fault = answer_fault(names, text)
        if text[:1] in ("o", "f") and not text.startswith("fo"):
            return Oracle(names).fault(("follows",), text)
        return fault

    def test_what_stays_open(self):
        for names in (SMALL, CLOSE):
            chance = random.Random(6)
            oracle = Oracle(names)
            for _ in range(200):
                answer = some_open(chance, names)
                text = answer_text(answer)
                told = read_answer(names, text)
                self.assertEqual(told, answer)
                self.assertEqual(kinds(told), kinds(answer))
                for _ in range(4):
                    text = changed(chance, text, SIGNS)
                    if text.startswith("o"):
                        self.assertEqual(answer_fault(names, text), oracle.fault(("open",), text), repr(text))


if __name__ == "__main__":
    unittest.main()
