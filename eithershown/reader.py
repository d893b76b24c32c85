"""A text that is read sign by sign, so that its first wrong sign is found where it stands."""

from eithershown.errors import BadText
from eithershown.kinds import CAPITALS, FIGURES, KEPT, LETTERS, LONGEST, NAME_SIGNS

MOST_FIGURES = 9


def count_beginning(length, signs):
    """How many strings of at most eight signs begin with a told one of a length, with so many signs to go on by."""
    total = 1
    for _ in range(LONGEST - length):
        total = total * signs + 1
    return total


class Reader:
    """A text and how far it is read; what does not fit raises BadText at the first wrong sign.

    One that grows is told more signs where its text ends too early: the first ones with which it can go on.
    """

    def __init__(self, text, grows):
        if not isinstance(text, str):
            raise BadText(0, 0)
        self.text = text
        self.at = 0
        self.grows = grows

    def fail(self, at):
        ahead = self.text[:at]
        raise BadText(ahead.count("\n") + 1, at - ahead.rfind("\n"))

    def at_end(self):
        return self.at == len(self.text)

    def at_one_of(self, signs):
        return not self.at_end() and self.text[self.at] in signs

    def finish(self):
        if not self.at_end():
            self.fail(self.at)

    def agreeing(self, option):
        """How many signs of an option, from its first one on, stand here."""
        if self.text.startswith(option, self.at):
            return len(option)
        many = 0
        while self.text[self.at + many:self.at + many + 1] == option[many]:
            many += 1
        return many

    def choose(self, options):
        """The option that stands here. Where one is the beginning of another the longer one is read as far as it
        stands: a name is never followed by a sign that could be one of its own."""
        reach, found = 0, None
        for option in options:
            many = self.agreeing(option)
            if many > reach:
                reach, found = many, None
            if many == reach and many == len(option):
                found = option
        if found is None and self.grows and self.at + reach == len(self.text):
            found = self.grown_by(options)
        if found is None:
            self.fail(self.at + reach)
        self.at += len(found)
        return found

    def grown_by(self, options):
        """The first option that begins with all that is left; the text is grown to it."""
        left = self.text[self.at:]
        for option in options:
            if option.startswith(left):
                self.text += option[len(left):]
                return option
        return None

    def expect(self, told):
        self.choose([told])

    def can_begin(self, told, first, later, barred):
        """Whether some string that is not barred begins with what is told."""
        if len(told) > LONGEST or told[-1] not in (first if len(told) == 1 else later):
            return False
        return len([word for word in barred if word.startswith(told)]) < count_beginning(len(told), len(later))

    def take_spelled(self, first, later, barred):
        """A string of at most eight signs, the first one of some, the others of later ones, that is not barred."""
        if self.grows and self.at_end():
            self.text += first[0]
        start = self.at
        while not self.at_end() and self.can_begin(self.text[start:self.at + 1], first, later, barred):
            self.at += 1
        told = self.text[start:self.at]
        if told == "" or told in barred:
            self.fail(self.at)
        return told

    def take_name(self, taken):
        kept = [word for word in KEPT if len(word) <= LONGEST]
        return self.take_spelled(LETTERS, NAME_SIGNS, kept + taken)

    def take_variable(self, taken):
        return self.take_spelled(CAPITALS, FIGURES, taken)

    def take_number(self):
        """A number of at most nine figures, none 0 ahead."""
        start = self.at
        while self.at_one_of(FIGURES) and self.at - start < MOST_FIGURES and self.text[start:self.at] != "0":
            self.at += 1
        if self.at == start:
            self.fail(self.at)
        return int(self.text[start:self.at])


def fault_of(read):
    """Where the reading of a text fails, None if it does not."""
    try:
        read()
    except BadText as fault:
        return (fault.line, fault.sign)
    return None
