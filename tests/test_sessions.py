"""Sessions: deeds, questions, back and on, trials, texts: [89] to [96]."""

import copy
import random
import unittest

from eithershown.answers import answer_for
from eithershown.binding import same_but_names
from eithershown.clauseforms import Form
from eithershown.errors import (BadArity, BadDeed, BadName, BadQuestion, BadSentence, BadSession, BadText, Crowded, HasAxiom, InUse, IsWatched,
                                NoCount, NotWatched, WouldChange)
from eithershown.instancing import count_instances
from eithershown.sessions import Session
from eithershown.sessiontexts import read_session, write_session
from eithershown.signatures import Names
from eithershown.theories import Problem, Theory
from eithershown.theorytexts import read_problem, theory_fault
from tests.making import M, N, THINGS, as_lists, as_tuples, kinds, some_sentence
from tests.test_ground import Case

SOC = ("soc",)
MORTAL, MAN = ("mortal", SOC), ("man", SOC)
RULE = ("all", "X", ("then", ("man", "X"), ("mortal", "X")))
SOME = ("some", "X", ("mortal", "X"))
PUT_IN = [("function", "soc", 0), ("predicate", "man", 1), ("predicate", "mortal", 1), ("axiom", "a1", RULE), ("axiom", "a2", MAN)]
ENDS, LEAST = ("ends", MORTAL, 0, 1), ("least", SOME, 1)
TEXT = M.rpartition("goal")[0]


def session_with(deeds):
    session = Session()
    for deed in deeds:
        session.do(deed)
    return session


def theory_of(text):
    return read_problem(text).theory()


def joined(sentences):
    """All of them in one sentence."""
    return sentences[0] if len(sentences) == 1 else ("and", sentences[0], joined(sentences[1:]))


class SessionCase(Case):
    def setUp(self):
        self.session = session_with(PUT_IN + [("hold", ENDS), ("watch", LEAST)])

    def facts(self, session):
        """All that a session tells."""
        return kinds([session.now().axioms(), session.now().names().functions(), session.now().names().predicates(), session.watched(), session.count(),
                      session.deeds()])

    def refused(self, session, deed, error, **told):
        """A deed that is refused, by do and by would, changes nothing."""
        ahead = self.facts(session)
        for ask in (session.do, session.would):
            if ask == session.would and error is WouldChange:
                continue
            with self.assertRaises(error) as caught:
                ask(deed)
            for name, worth in told.items():
                self.assertEqual(kinds(getattr(caught.exception, name)), kinds(worth))
            self.assertEqual(self.facts(session), ahead)

    def refused_thing(self, session, deed, error, thing):
        ahead = self.facts(session)
        for ask in (session.do, session.would):
            with self.assertRaises(error) as caught:
                ask(deed)
            self.assertIs(caught.exception.thing, thing)
            self.assertEqual(self.facts(session), ahead)


class DeedTests(SessionCase):
    def test_begins_with_nothing(self):
        session = Session()
        self.assertEqual(session.now(), Theory(Names([], []), []))
        self.assertEqual(session.watched(), [])
        self.assertEqual((session.count(), session.deeds(), session.undo(), session.again()), (0, [], None, None))
        self.assertEqual(session, Session())

    def test_the_example(self):
        session = self.session
        self.assertEqual(session.now(), theory_of(M))
        self.assertEqual(kinds(session.watched()), kinds([(ENDS, "follows", True), (LEAST, 0, False)]))
        self.refused(session, ("drop", "a2"), WouldChange, question=ENDS, was="follows", becomes="fails")
        self.assertEqual(kinds(session.would(("drop", "a2"))), kinds([(ENDS, "follows", "fails"), (LEAST, 0, None)]))
        self.assertEqual(session.do(("free", ENDS)), [])
        self.assertEqual(kinds(session.do(("drop", "a2"))), kinds([(LEAST, 0, None)]))
        self.refused(session, ("forget", "man"), HasAxiom, name="a1")
        self.assertEqual(session.do(("forget", "soc")), [])
        self.assertEqual(session.now().names().functions(), [])
        self.assertEqual(session.watched(), [(LEAST, None, False)])

    def test_what_deeds_do(self):
        session = Session()
        self.assertEqual(kinds(session.do(["predicate", "p", 1])), kinds([]))
        session.do(("function", "c", 0))
        session.do(("function", "b", 2))
        self.assertEqual(session.now().names(), Names([("b", 2), ("c", 0)], [("p", 1)]))
        session.do(["axiom", "z", ["p", ["c"]]])
        session.do(("axiom", "a", ("not", ("p", ("c",)))))
        self.assertEqual(kinds(session.now().axioms()), kinds([("z", ("p", ("c",))), ("a", ("not", ("p", ("c",))))]))
        session.do(("drop", "z"))
        session.do(("axiom", "z", ("=", ("c",), ("c",))))
        self.assertEqual([name for name, _ in session.now().axioms()], ["a", "z"])
        session.do(("forget", "b"))
        self.assertEqual(session.now().names(), Names([("c", 0)], [("p", 1)]))
        other = session.copy()
        for deed in (("predicate", "q", 1), ("predicate", "a", 0), ("function", "d", 1), ("forget", "q")):
            other.do(deed)
        self.assertEqual(other.now().names(), Names([("c", 0), ("d", 1)], [("a", 0), ("p", 1)]))
        other.undo()
        self.assertEqual(other.deeds()[-1], ("function", "d", 1))
        self.assertEqual(kinds(session.deeds()[3]), kinds(("axiom", "z", ("p", ("c",)))))
        self.assertEqual(session.count(), 8)
        session.do(("watch", ["alike", "a", "z"]))
        self.assertEqual(kinds(session.watched()), kinds([(("alike", "a", "z"), False, False)]))
        self.assertEqual(kinds(session.deeds()[-1]), kinds(("watch", ("alike", "a", "z"))))

    def test_bad_deeds(self):
        for bad in THINGS + ((), ("function",), ("function", "c"), ("function", "c", 0, 0), ("predicate", "p"), ("forget",), ("forget", "c", 0), ("axiom", "a"), ("axiom", "a", MAN, 0),
                             ("drop",), ("drop", "a1", 0), ("watch",), ("watch", ENDS, 0), ("hold",), ("free",), ("free", ENDS, 0), ("undo", 1), ("Watch", ENDS), (None, 1),
                             (["watch"], ENDS), ("things", "a", 0), "watch", ("watch", )):
            self.refused_thing(self.session, bad, BadDeed, bad)

    def test_bad_names(self):
        session = self.session
        for word in ("function", "predicate"):
            for bad in (None, 5, "", "X", "not", "toolongname", "soc", "man", ("c",), ["c"], True, "a b"):
                self.refused_thing(session, (word, bad, None), BadName, bad)
            for bad in (None, -1, 7, True, "0", [0]):
                self.refused_thing(session, (word, "c", bad), BadArity, bad)
            session.copy().do((word, "a1", 6))
        for bad in (None, 5, "a1", "sok", "X", ("soc",), [], True):
            self.refused_thing(session, ("forget", bad), BadName, bad)
        for bad in (None, 5, "", "X", "goal", "a1", "a2", "toolongname", ("a3",), []):
            self.refused_thing(session, ("axiom", bad, None), BadName, bad)
        session.copy().do(("axiom", "soc", MAN))
        for bad in (None, 5, "a3", "soc", ("a1",), [], True):
            self.refused_thing(session, ("drop", bad), BadName, bad)

    def test_bad_sentences(self):
        for bad in (None, 5, "man(soc)", (), ("man", "X"), ("man",), ("men", SOC), ("all", "X", ("man", "Y")), SOC, ("not",), [("man", SOC)], ("some", "x", MAN)):
            self.refused_thing(self.session, ("axiom", "a3", bad), BadSentence, bad)

    def test_forget(self):
        self.refused(self.session, ("forget", "man"), HasAxiom, name="a1")
        self.refused(self.session, ("forget", "soc"), HasAxiom, name="a2")
        session = session_with([("function", "c", 0), ("function", "f", 1), ("predicate", "p", 1), ("predicate", "q", 0), ("function", "d", 0),
                                ("axiom", "z", ("all", "X", ("or", ("=", "X", "X"), ("not", ("p", ("f", ("f", ("c",)))))))), ("axiom", "a", ("p", ("c",))), ("axiom", "b", ("iff", ("q",), ("=", ("d",), ("d",))))])
        for name, axiom in (("c", "z"), ("f", "z"), ("p", "z"), ("q", "b"), ("d", "b")):
            self.refused(session, ("forget", name), HasAxiom, name=axiom)
        session.do(("drop", "z"))
        self.refused(session, ("forget", "c"), HasAxiom, name="a")
        self.assertEqual(session.do(("forget", "f")), [])
        # An axiom that has a name comes ahead of a question that has it.
        session.do(("watch", ("least", ("p", ("d",)), 0)))
        self.refused(session, ("forget", "p"), HasAxiom, name="a")

    def test_bad_questions(self):
        for bad in THINGS + (("ends", MORTAL, 0), ("ends", MORTAL, 0, 0), ("ends", MORTAL, -1, 1), ("ends", MORTAL, 0, 1, 1), ("ends", ("mortal", "X"), 0, 1), ("ends", None, 0, 1),
                             ("ends", MORTAL, True, 1), ("ends", MORTAL, 0, True), ("ends", MORTAL, None, 1), ("ends", ("men", SOC), 0, 1), ("least", MORTAL), ("least", MORTAL, -1),
                             ("least", MORTAL, 0, 1), ("least", ("all", "X", ("man", "Y")), 0), ("least", MORTAL, "0"), ("alike", "a1"), ("alike", "a1", "a3"), ("alike", "a3", "a1"),
                             ("alike", "a1", "a2", "a1"), ("alike", RULE, RULE), ("alike", None, "a1"), ("like", "a1", "a1"), ("", "a1", "a1"), ("Ends", MORTAL, 0, 1), (None, MORTAL, 0), (["ends"], MORTAL, 0, 1), "ends"):
            self.assertIs(self.session.is_question(bad), False)
            with self.assertRaises(BadQuestion) as caught:
                self.session.answer(bad)
            self.assertIs(caught.exception.thing, bad)
            for word in ("watch", "hold", "free"):
                self.refused_thing(self.session, (word, bad), BadQuestion, bad)

    def test_watched_or_not(self):
        session = self.session
        alike = ("alike", "a1", "a2")
        for question in (ENDS, as_lists(ENDS), LEAST):
            self.refused(session, ("watch", question), IsWatched, question=as_tuples(question))
        self.refused(session, ["hold", as_lists(ENDS)], IsWatched, question=ENDS)
        for question in (alike, ("ends", MORTAL, 0, 2), ("ends", MORTAL, 1, 1), ("least", SOME, 0), ("least", MORTAL, 1)):
            self.refused(session, ("free", as_lists(question)), NotWatched, question=question)
        # Holding a watched one leaves it in its place.
        session.do(("watch", alike))
        self.assertEqual(session.do(("hold", as_lists(LEAST))), [])
        self.assertEqual(session.watched(), [(ENDS, "follows", True), (LEAST, 0, True), (alike, False, False)])
        session.do(("free", LEAST))
        self.assertEqual(session.watched(), [(ENDS, "follows", True), (alike, False, False)])
        session.do(("watch", LEAST))
        self.assertEqual(session.watched(), [(ENDS, "follows", True), (alike, False, False), (LEAST, 0, False)])

    def test_in_use(self):
        session = session_with(PUT_IN + [("function", "c", 0), ("watch", LEAST), ("watch", ("least", ("man", ("c",)), 0)), ("hold", ("ends", ("=", ("c",), SOC), 0, 1)),
                                         ("hold", ("alike", "a2", "a1"))])
        self.refused(session, ("forget", "c"), InUse, question=("least", ("man", ("c",)), 0))
        session.do(("free", ("least", ("man", ("c",)), 0)))
        self.refused(session, ("forget", "c"), InUse, question=("ends", ("=", ("c",), SOC), 0, 1))
        self.refused(session, ("drop", "a1"), InUse, question=("alike", "a2", "a1"))
        # Ahead of what would change: a2 answers what is held, too.
        session.do(("hold", ("ends", MORTAL, 0, 1)))
        self.refused(session, ("drop", "a2"), InUse, question=("alike", "a2", "a1"))
        session.do(("free", ("alike", "a2", "a1")))
        self.refused(session, ("drop", "a2"), WouldChange, question=("ends", MORTAL, 0, 1), was="follows", becomes="fails")

    def test_would_change(self):
        """The first held one, as they came; what is only watched bars nothing."""
        session = session_with(PUT_IN + [("watch", LEAST), ("hold", ("least", MAN, 0)), ("hold", ENDS)])
        self.refused(session, ("drop", "a2"), WouldChange, question=("least", MAN, 0), was=0, becomes=None)
        self.assertEqual(session.would(("drop", "a2")), [(LEAST, 0, None), (("least", MAN, 0), 0, None), (ENDS, "follows", "fails")])
        self.assertEqual(session.do(("axiom", "a3", ("mortal", SOC))), [])
        session.do(("free", ("least", MAN, 0)))
        self.assertEqual(kinds(session.do(("drop", "a2"))), kinds([]))
        self.refused(session, ("drop", "a3"), WouldChange, question=ENDS, was="follows", becomes="fails")
        session.do(("free", ENDS))
        self.assertEqual(session.do(("drop", "a3")), [(LEAST, 0, None)])

    def test_order_of_errors(self):
        session = self.session
        self.refused_thing(session, ("function", "X", "bad"), BadName, "X")
        self.refused_thing(session, ("axiom", "a1", None), BadName, "a1")
        self.refused(session, ("forget", "mortal"), HasAxiom, name="a1")


class QuestionTests(SessionCase):
    def test_answers(self):
        session = self.session
        for question, answer in ((ENDS, "follows"), (LEAST, 0), (("ends", ("all", "X", ("man", "X")), 0, 1), "open"), (("ends", ("all", "X", ("man", "X")), 0, 2), "fails"),
                                 (("least", ("all", "X", ("man", "X")), 1), None), (("alike", "a1", "a1"), True), (("alike", "a1", "a2"), False),
                                 (("ends", ("not", MORTAL), 1, 1), "fails")):
            self.assertIs(session.is_question(question), True)
            self.assertIs(session.is_question(as_lists(question)), True)
            self.assertEqual(kinds(session.answer(question)), kinds(answer))
            self.assertEqual(kinds(session.answer(as_lists(question))), kinds(answer))
        session.do(("axiom", "a3", ("all", "Y", ("then", ("man", "Y"), ("mortal", "Y")))))
        self.assertIs(session.answer(("alike", "a3", "a1")), True)

    def test_least(self):
        session = session_with([("function", "c", 0), ("function", "f", 1), ("predicate", "p", 1), ("axiom", "a1", ("p", ("c",))),
                                ("axiom", "a2", ("all", "X", ("then", ("p", "X"), ("p", ("f", "X")))))])
        self.assertEqual([session.answer(("least", ("p", ("f", ("f", ("c",)))), depth)) for depth in (0, 1, 2)], [None, 1, 1])
        self.assertEqual(session.answer(("ends", ("p", ("f", ("f", ("c",)))), 0, 3)), "open")

    def test_crowded(self):
        """Where more than five hundred instances are due."""
        many = ("all", "X", ("all", "Y", ("all", "Z", ("or", ("p", "X"), ("or", ("p", "Y"), ("p", "Z"))))))
        deeds = [("function", f"c{at}", 0) for at in range(8)] + [("predicate", "p", 1), ("axiom", "a1", many)]
        session = session_with(deeds + [("axiom", f"b{at}", ("p", (f"c{at}",))) for at in range(8)])
        goal = ("p", ("c0",))
        for question in (("ends", goal, 0, 1), ("least", goal, 0)):
            self.assertEqual(session.answer(question), "crowded")
            self.assertEqual(session.do(("watch", question)), [])
        with self.assertRaises(Crowded):
            answer_for(Problem(session.now(), goal), 0, 1, 500)
        self.assertEqual(session.would(("drop", "a1")), [(("ends", goal, 0, 1), "crowded", "follows"), (("least", goal, 0), "crowded", 0)])
        # Five hundred are none too many.
        clause = ("all", "X", ("all", "Y", ("or", ("r", "X", "Y"), ("p", "X"))))
        grown = session_with([("function", f"c{at}", 0) for at in range(10)] + [("predicate", "p", 1), ("predicate", "r", 2)])
        for at in range(4):
            grown.do(("axiom", f"a{at}", ("all", "X", ("all", "Y", ("or", ("r", "X", "Y"), ("p", (f"c{at}",)))))))
        grown.do(("axiom", "b", joined([("or", ("p", (f"c{at}",)), ("p", (f"c{at + 1}",))) for at in range(9)] + [("all", "X", ("or", ("p", "X"), ("p", (f"c{at}",)))) for at in range(9)])))
        self.assertEqual(grown.answer(("least", ("r", ("c0",), ("c1",)), 0)), None)
        self.assertEqual(count_instances([row[1] for row in Form(grown.now(), ("r", ("c0",), ("c1",))).clauses()], 0), 500)
        self.assertEqual(grown.would(("axiom", "c", clause)), [])
        grown.do(("axiom", "c", ("p", ("c0",))))
        self.assertEqual(grown.answer(("least", ("r", ("c0",), ("c1",)), 0)), "crowded")
        self.assertEqual(grown.answer(("ends", ("r", ("c0",), ("c1",)), 0, 1)), "crowded")
        # A depth that is crowded is so where a lesser one would be enough.
        deep = session_with([("function", "c", 0), ("function", "g", 2), ("predicate", "p", 1), ("axiom", "a1", ("all", "X", ("all", "Y", ("p", ("g", "X", "Y"))))), ("axiom", "a2", ("p", ("c",)))])
        self.assertEqual([deep.answer(("least", ("p", ("c",)), depth)) for depth in (0, 1, 2, 3)], [0, 0, 0, "crowded"])

    def test_drawn(self):
        """Answers against answer_for; deeds against sessions that are made anew; what [93] says."""
        chance = random.Random(51)
        names = Names([("c", 0), ("f", 1)], [("p", 1), ("q", 0), ("r", 2)])
        rank = {"ends": ["fails", "open", "follows"]}
        met = 0
        for _ in range(220):
            session = session_with([("function", "c", 0), ("function", "f", 1), ("predicate", "p", 1), ("predicate", "q", 0), ("predicate", "r", 2)])
            for at in range(chance.randrange(3)):
                session.do(("axiom", f"a{at}", some_sentence(chance, names, 3, ())))
            asked = []
            for _ in range(3):
                goal = some_sentence(chance, names, 3, ())
                question = chance.choice([("ends", goal, 1, 2), ("least", goal, 1), ("ends", goal, 0, 1)])
                if question not in asked:
                    asked.append(question)
                    session.do(("watch", question))
            for question, answer, held in session.watched():
                self.assertIs(held, False)
                self.assertEqual(session.answer(question), answer)
                if question[0] == "ends":
                    try:
                        plain = answer_for(Problem(session.now(), question[1]), question[2], question[3], 500)[0]
                    except Crowded:
                        plain = "crowded"
                    self.assertEqual(answer, plain)
            ahead = session.watched()
            deed = chance.choice([("axiom", "z", some_sentence(chance, names, 3, ())), ("function", "more", 1), ("predicate", "d1", 0)])
            would = session.would(deed)
            self.assertEqual(session.watched(), ahead)
            self.assertEqual(kinds(session.do(deed)), kinds(would))
            behind = session.watched()
            self.assertEqual(would, [(row[0], row[1], now[1]) for row, now in zip(ahead, behind) if row[1] != now[1]])
            anew = session_with(session.deeds())
            self.assertEqual(self.facts(anew), self.facts(session))
            if deed[0] != "axiom":
                self.assertEqual(would, [])
            for question, was, now in would:
                met += 1
                if "crowded" not in (was, now) and question[0] == "ends":
                    self.assertLess(rank["ends"].index(was), rank["ends"].index(now))
                if "crowded" not in (was, now) and question[0] == "least":
                    self.assertTrue(was is None or now < was)
        self.assertGreater(met, 10)

    def test_alike_drawn(self):
        chance = random.Random(52)
        names = Names([("c", 0)], [("p", 1)])
        for _ in range(40):
            one, other = some_sentence(chance, names, 2, ()), some_sentence(chance, names, 2, ())
            session = session_with([("function", "c", 0), ("predicate", "p", 1), ("axiom", "a", one), ("axiom", "b", other)])
            self.assertIs(session.answer(("alike", "a", "b")), same_but_names(one, other))


class BackAndOnTests(SessionCase):
    def test_undo_and_again(self):
        session = self.session
        facts = [self.facts(session)]
        deeds = session.deeds()
        for deed in deeds[::-1]:
            self.assertEqual(kinds(session.undo()), kinds(deed))
            facts.append(self.facts(session))
        self.assertIsNone(session.undo())
        self.assertEqual(session, Session())
        self.assertEqual(session.count(), 0)
        for at, deed in enumerate(deeds):
            self.assertEqual(session.again(), deed)
            self.assertEqual(session.count(), at + 1)
            self.assertEqual(self.facts(session), facts[len(deeds) - at - 1])
        self.assertIsNone(session.again())

    def test_back_whatever_is_held(self):
        session = session_with(PUT_IN[:4] + [("watch", ENDS)] + PUT_IN[4:])
        session.do(("hold", ENDS))
        session.undo()
        session.undo()
        self.assertEqual(session.watched(), [(ENDS, "fails", False)])
        session.again()
        session.again()
        self.assertEqual(session.watched(), [(ENDS, "follows", True)])
        self.refused(session, ("drop", "a2"), WouldChange, question=ENDS, was="follows", becomes="fails")
        # A deed that is done ends what can be done again; one that is refused does not.
        session.undo()
        self.refused(session, ("drop", "a9"), BadName)
        self.assertEqual(session.again(), ("hold", ENDS))
        session.undo()
        session.do(("predicate", "p", 0))
        self.assertIsNone(session.again())
        self.assertEqual(session.count(), 7)

    def test_would_changes_nothing(self):
        session = self.session
        session.undo()
        ahead = self.facts(session)
        session.would(("predicate", "p", 0))
        session.would(("watch", LEAST))
        self.assertEqual(self.facts(session), ahead)
        self.assertEqual(session.again(), ("watch", LEAST))

    def test_at(self):
        session = self.session
        session.undo()
        for number in range(session.count() + 1):
            other = session.at(number)
            self.assertEqual(self.facts(other), self.facts(session_with(session.deeds()[:number])))
            self.assertIsNone(other.again())
        self.assertEqual(session.at(6), session)
        for bad in (7, -1, None, True, "0", [0]):
            with self.assertRaises(NoCount) as caught:
                session.at(bad)
            self.assertIs(caught.exception.thing, bad)
        other = session.at(3)
        self.assertEqual(other.undo(), PUT_IN[2])
        other.do(("predicate", "p", 0))
        self.assertEqual(session.count(), 6)
        self.assertEqual(session.again(), ("watch", LEAST))

    def test_copy(self):
        session = self.session
        session.undo()
        other = session.copy()
        self.assertIsNot(other, session)
        self.assertEqual(other, session)
        self.assertEqual(self.facts(other), self.facts(session))
        self.assertEqual(other.again(), ("watch", LEAST))
        self.assertEqual(session.count(), 6)
        self.assertNotEqual(other, session)
        other.do(("free", ENDS))
        other.do(("drop", "a2"))
        self.assertEqual(session.now(), theory_of(M))
        session.do(("predicate", "p", 0))
        self.assertEqual(other.now().names(), theory_of(M).names())
        self.assertIsNone(session.again())
        self.assertEqual(other.undo(), ("drop", "a2"))

    def test_trial(self):
        session = self.session
        session.undo()
        ahead = self.facts(session)
        seen = []

        def work(given):
            seen.append(given)
            given.do(("free", ENDS))
            given.do(("drop", "a2"))
            self.assertEqual(given.count(), 8)
            return [given.answer(LEAST)]

        self.assertEqual(session.trial(work), [None])
        self.assertIs(seen[0], session)
        self.assertEqual(self.facts(session), ahead)
        self.assertEqual(session.again(), ("watch", LEAST))
        session.undo()

        def back(given):
            while given.undo() is not None:
                pass
            given.do(("predicate", "p", 0))
            return given.copy()

        told = session.trial(back)
        self.assertEqual(told.deeds(), [("predicate", "p", 0)])
        self.assertEqual(self.facts(session), ahead)

    def test_trial_with_an_error(self):
        session = self.session
        ahead = self.facts(session)

        def fails(given):
            given.do(("free", ENDS))
            given.do(("forget", "man"))

        with self.assertRaises(HasAxiom):
            session.trial(fails)
        self.assertEqual(self.facts(session), ahead)

        class OwnError(Exception):
            pass

        def within(given):
            given.do(("free", ENDS))
            middle = self.facts(given)
            with self.assertRaises(HasAxiom):
                given.trial(fails_more)
            self.assertEqual(self.facts(given), middle)
            self.assertEqual(given.trial(lambda inner: inner.trial(lambda last: (last.undo(), last.count()))), (("free", ENDS), 7))
            self.assertEqual(self.facts(given), middle)
            raise OwnError()

        def fails_more(given):
            given.do(("drop", "a2"))
            given.do(("forget", "man"))

        with self.assertRaises(OwnError):
            session.trial(within)
        self.assertEqual(self.facts(session), ahead)

    def test_equality(self):
        other = session_with([PUT_IN[at] for at in (1, 0, 2, 3, 4)] + [("watch", ENDS), ("watch", LEAST), ("hold", ENDS)])
        self.assertEqual(other, self.session)
        self.assertFalse(other != self.session)
        for deed in (("free", LEAST), ("hold", LEAST), ("watch", ("alike", "a1", "a2")), ("predicate", "p", 0), ("axiom", "a3", MAN)):
            more = self.session.copy()
            more.do(deed)
            self.assertNotEqual(more, self.session)
        turned = session_with(PUT_IN + [("watch", LEAST), ("hold", ENDS)])
        self.assertNotEqual(turned, self.session)
        for thing in (None, 5, self.session.now(), TEXT, []):
            self.assertFalse(self.session == thing)

    def test_told_anew(self):
        session = self.session
        session.watched().clear()
        session.deeds().clear()
        self.assertEqual(session.count(), 7)
        self.assertEqual(len(session.watched()), 2)
        self.assertEqual(len(session.deeds()), 7)
        deed = ["axiom", "a3", ["mortal", ["soc"]]]
        kept = copy.deepcopy(deed)
        session.do(deed)
        self.assertEqual(deed, kept)
        deed[2][0] = "man"
        self.assertEqual(session.now().axioms()[-1], ("a3", MORTAL))
        self.assertEqual(kinds(session.deeds()[-1]), kinds(("axiom", "a3", MORTAL)))


class SessionTextTests(SessionCase):
    def test_there_and_back(self):
        text = TEXT + "hold ends 0 1: mortal(soc)\nwatch least 1: some X: mortal(X)\n"
        self.assertEqual(write_session(self.session), text)
        told = read_session(text)
        self.assertEqual(told, self.session)
        self.assertEqual(told.watched(), self.session.watched())
        self.assertEqual((told.count(), told.deeds(), told.undo(), told.again()), (0, [], None, None))
        self.session.do(("hold", ("alike", "a2", "a1")))
        self.assertEqual(write_session(self.session), text + "hold alike a2 a1\n")
        self.assertEqual(read_session(text + "hold alike a2 a1\n"), self.session)
        self.assertEqual(write_session(Session()), "")
        self.assertEqual(read_session(""), Session())
        self.assertEqual(read_session(TEXT).now(), theory_of(M))
        mixed = "predicate q 0\nfunction c 0\nwatch ends 1 3: q\n"
        self.assertEqual(write_session(read_session(mixed)), "function c 0\npredicate q 0\nwatch ends 1 3: q\n")
        told.do(("free", ENDS))
        self.assertEqual(told.deeds(), [("free", ENDS)])
        for bad in (None, 5, "", [], theory_of(M)):
            self.caught(BadSession, write_session, bad)

    def fault(self, text):
        with self.assertRaises(BadText) as caught:
            read_session(text)
        return (caught.exception.line, caught.exception.sign)

    def test_first_wrong_sign(self):
        line = TEXT.count("\n") + 1
        for bad in (None, 5, [], b"", True):
            self.assertEqual(self.fault(bad), (0, 0))
        for text, sign in (("watch", 6), ("watch ", 7), ("wotch", 2), ("watch  ends", 7), ("hold e", 7), ("hold endz", 9), ("watch ends 01 1: q", 13), ("watch ends 0 0: q", 14),
                           ("watch ends 0 01", 14), ("watch ends 0 10: man(soc)", 26), ("watch ends 0: man(soc)", 13), ("watch ends 1234567890 1", 21), ("watch least 1 1: man(soc)", 14),
                           ("watch least 1:man", 15), ("watch least 1: man(X)", 20), ("watch alike a", 14), ("watch alike a3", 14), ("watch alike a1 a", 17), ("watch alike a1", 15),
                           ("watch alike a1 a22\n", 18), ("watch alike a1  a2", 16), ("goal", 1), ("watch least 1: man(soc) \n", 24),
                           ("watch least -1", 13), ("hold least : man(soc)", 12)):
            self.assertEqual(self.fault(TEXT + text), (line, sign), text)
        self.assertEqual(self.fault(TEXT + "watch least 1: man(soc)\naxiom a3: man(soc)\n"), (line + 1, 1))
        self.assertEqual(self.fault(TEXT + "watch least 1: man(soc)\nfunction"), (line + 1, 1))
        self.assertEqual(self.fault(TEXT + "axiom a3: man(soc)\nwatch"), (line + 1, 6))
        # Without axioms nothing is alike.
        self.assertEqual(self.fault("watch alike"), (1, 7))
        self.assertEqual(self.fault("watch ends 0 1: X = X"), (1, 17))
        self.assertIsNotNone(read_session("watch ends 0 1: all X: X = X\n"))

    def test_a_question_twice(self):
        """Wrong at its line feed, however it is watched."""
        one = "watch least 1: man(soc)\n"
        line = TEXT.count("\n") + 2
        self.assertEqual(self.fault(TEXT + one + one), (line, 24))
        self.assertEqual(self.fault(TEXT + one + one[:-1]), (line, 24))
        self.assertEqual(self.fault(TEXT + one + "hold" + one[5:]), (line, 23))
        self.assertEqual(self.fault(TEXT + "hold alike a1 a2\nwatch alike a2 a1\nwatch alike a1 a2\n"), (line + 1, 18))
        self.assertEqual(self.fault(TEXT + one + one[:-1] + "x"), (line, 24))
        self.assertIsNotNone(read_session(TEXT + one + one.replace("1", "0")))

    def test_theories_lines_as_theories(self):
        """The faults of a theory's text, but where questions can stand."""
        chance = random.Random(53)
        for _ in range(200):
            at = chance.randrange(len(TEXT))
            text = TEXT[:at] + chance.choice(["", "x", "(", " ", "\n", "X", "0"]) + TEXT[at + chance.randrange(2):]
            fault = theory_fault(text)
            if fault is None:
                self.assertEqual(read_session(text).watched(), [])
            else:
                self.assertEqual(self.fault(text), fault)
        self.assertEqual(theory_fault(N.rpartition("goal")[0]), None)

    def test_drawn(self):
        chance = random.Random(54)
        names = Names([("c", 0)], [("p", 1), ("q", 0)])
        for _ in range(60):
            session = session_with([("function", "c", 0), ("predicate", "p", 1), ("predicate", "q", 0)])
            for at in range(chance.randrange(3)):
                session.do(("axiom", f"a{at}", some_sentence(chance, names, 2, ())))
            for _ in range(chance.randrange(4)):
                question = chance.choice([("ends", some_sentence(chance, names, 2, ()), chance.randrange(2), chance.randrange(1, 3)), ("least", some_sentence(chance, names, 2, ()), chance.randrange(2))])
                if question not in [row[0] for row in session.watched()]:
                    session.do((chance.choice(["watch", "hold"]), question))
            text = write_session(session)
            again = read_session(text)
            self.assertEqual(again, session)
            self.assertEqual(kinds(again.watched()), kinds(session.watched()))
            self.assertEqual(write_session(again), text)


if __name__ == "__main__":
    unittest.main()
