"""States of sessions, which never change: a theory, and what is watched of it."""

from eithershown.errors import BadQuestion, InUse, IsWatched, NotWatched
from eithershown.kinds import frozen
from eithershown.questions import answer_of, is_question_of


class State:
    """A theory, and triples (question, its answer, whether it is held)."""

    def __init__(self, basis, asked):
        self.basis = basis
        self.asked = asked

    def homes(self):
        """The questions that are watched."""
        return [question for question, _, _ in self.asked]

    def checked_question(self, thing):
        """The question made of tuples."""
        if not is_question_of(self.basis, thing):
            raise BadQuestion(thing)
        return frozen(thing)

    def with_watched(self, thing, is_held):
        """This state, with a question watched, and held if so told."""
        question = self.checked_question(thing)
        rows = []
        for other, answer, was_held in self.asked:
            if other == question and (was_held or not is_held):
                raise IsWatched(question)
            rows.append((other, answer, was_held or other == question))
        if question not in self.homes():
            rows.append((question, answer_of(self.basis, question), is_held))
        return State(self.basis, rows)

    def without(self, thing):
        """This state, with a question neither watched nor held."""
        question = self.checked_question(thing)
        if question not in self.homes():
            raise NotWatched(question)
        return State(self.basis, [row for row in self.asked if row[0] != question])

    def moved(self, theory, is_same):
        """What is watched of another theory; all is answered as ahead if so told."""
        for question in self.homes():
            if not is_question_of(theory, question):
                raise InUse(question)
        if is_same:
            return State(theory, self.asked)
        return State(theory, [(question, answer_of(theory, question), is_held)
                              for question, _, is_held in self.asked])

    def changes(self, later):
        """The triples (question, ahead, behind) of what is answered otherwise in a later state; where a question came
        or went the theory is the same."""
        if self.homes() != later.homes():
            return []
        return [(row[0], row[1], behind[1]) for row, behind in zip(self.asked, later.asked) if row[1] != behind[1]]

    def held(self):
        """The questions that are held."""
        return [question for question, _, is_held in self.asked if is_held]

    def marks(self):
        """What is watched, and whether it is held."""
        return [(question, is_held) for question, _, is_held in self.asked]
