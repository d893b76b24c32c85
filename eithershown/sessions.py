"""Sessions: theories that live, with questions that are watched and held."""

from eithershown.deeds import state_behind
from eithershown.errors import NoCount, WouldChange
from eithershown.kinds import is_number
from eithershown.questions import answer_of, is_question_of
from eithershown.signatures import Names
from eithershown.states import State
from eithershown.theories import Theory


class Session:
    """States that were, the deeds between them, and the place among them; lists are never changed, but told anew."""

    def __init__(self):
        self._states = [State(Theory(Names([], []), []), [])]
        self._done = []
        self._place = 0

    def state(self):
        return self._states[self._place]

    def now(self):
        return self.state().basis

    def watched(self):
        return list(self.state().asked)

    def do(self, deed):
        later, told = state_behind(self.state(), deed)
        changes = self.state().changes(later)
        for question, was, becomes in changes:
            if question in self.state().held():
                raise WouldChange(question, was, becomes)
        self._states = self._states[:self._place + 1] + [later]
        self._done = self._done[:self._place] + [told]
        self._place += 1
        return changes

    def is_question(self, thing):
        return is_question_of(self.now(), thing)

    def answer(self, question):
        return answer_of(self.now(), self.state().checked_question(question))

    def would(self, deed):
        return self.state().changes(state_behind(self.state(), deed)[0])

    def count(self):
        return self._place

    def deeds(self):
        return self._done[:self._place]

    def undo(self):
        if self._place == 0:
            return None
        self._place -= 1
        return self._done[self._place]

    def again(self):
        if self._place == len(self._done):
            return None
        self._place += 1
        return self._done[self._place - 1]

    def at(self, number):
        if not is_number(number) or number > self._place:
            raise NoCount(number)
        return session_of(self._states[:number + 1], self._done[:number], number)

    def copy(self):
        return session_of(self._states, self._done, self._place)

    def trial(self, work):
        states, done, place = self._states, self._done, self._place
        try:
            return work(self)
        finally:
            self._states, self._done, self._place = states, done, place

    def __eq__(self, other):
        return (isinstance(other, Session) and self.now() == other.now()
                and self.state().marks() == other.state().marks())


def session_of(states, done, place):
    """A session with these states and deeds."""
    session = Session()
    session._states, session._done, session._place = states, done, place
    return session
