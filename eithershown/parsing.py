"""Words, atoms, literals, clauses and sentences by Names, read from a Reader.

What is still to do stands in a list, as texts may nest deeper than calls. scope is a tuple of the variables that may
stand, None where each one may.
"""

from eithershown.kinds import CAPITALS, unlike

JOINTS = (" and ", " or ", " then ", " iff ")


def flat_starts(places):
    """The names that stand alone."""
    return [name for name in places if places[name] == 0]


def open_starts(places):
    """The names that stand ahead of words, with the sign between."""
    return [name + "(" for name in places if places[name] > 0]


class Parser:
    """What is to do next, last in the list first, and what is read."""

    def __init__(self, reader, names):
        self.reader = reader
        self.function_places = dict(names.functions())
        self.predicate_places = dict(names.predicates())
        self.constants = flat_starts(self.function_places)
        self.functions_ahead = open_starts(self.function_places)
        self.flat_predicates = flat_starts(self.predicate_places)
        self.predicates_ahead = open_starts(self.predicate_places)
        self.work = []
        self.built = []

    def word(self):
        return self.run("word", None)

    def literal(self):
        return self.run("literal", None)

    def sentence(self):
        """A closed sentence."""
        return self.run("sentence", ())

    def clause(self):
        """A clause and the line feed behind it."""
        token = self.take_token(["false", "not "] + self.atom_starts(None), None)
        if token == "false":
            self.reader.expect("\n")
            return []
        self.go_on_literal(token)
        literals = [self.finish()]
        while self.reader.choose([" or ", "\n"]) == " or ":
            literals.append(self.literal())
        return unlike(literals)

    def run(self, kind, scope):
        self.work.append((kind, scope))
        return self.finish()

    def finish(self):
        """Does all that is to do; each thing done may put more ahead of what is left."""
        while self.work:
            kind, told = self.work.pop()
            if kind == "sentence":
                self.begin_sentence(told)
            elif kind == "literal":
                self.go_on_literal(self.take_token(["not "] + self.atom_starts(None), None))
            elif kind == "atom":
                self.go_on_atom(self.take_token(self.atom_starts(told), told), told)
            elif kind == "word":
                self.go_on_word(self.take_token(self.word_starts(told), told), told)
            elif kind == "signs":
                self.reader.expect(told)
            elif kind == "joint":
                self.built.append(self.reader.choose(list(JOINTS)).strip())
            elif kind == "turn":
                self.built[-2:] = [self.built[-1], self.built[-2]]
            else:
                self.built[-told:] = [tuple(self.built[-told:])]
        return self.built.pop()

    def word_starts(self, scope):
        """How a word can begin; where none could be ended no name is followed by words."""
        ended = self.ended_words(scope)
        return ended + (self.functions_ahead if scope is None or ended else [])

    def ended_words(self, scope):
        return list(scope or ())[::-1] + self.constants

    def atom_starts(self, scope):
        if scope is None or self.ended_words(scope):
            return self.flat_predicates + self.word_starts(scope) + self.predicates_ahead
        return self.flat_predicates

    def take_token(self, options, scope):
        if scope is None and self.reader.at_one_of(CAPITALS):
            return self.reader.take_variable([])
        return self.reader.choose(options)

    def begin_sentence(self, scope):
        token = self.reader.choose(self.atom_starts(scope) + ["all ", "some ", "not ", "("])
        if token == "(":
            self.work.extend([("close", 3), ("signs", ")"), ("sentence", scope), ("turn", None), ("joint", None),
                              ("sentence", scope)])
        elif token == "not ":
            self.built.append("not")
            self.work.extend([("close", 2), ("sentence", scope)])
        elif token in ("all ", "some "):
            variable = self.reader.take_variable([])
            self.reader.expect(": ")
            self.built.extend([token.strip(), variable])
            self.work.extend([("close", 3), ("sentence", scope + (variable,))])
        else:
            self.go_on_atom(token, scope)

    def go_on_literal(self, token):
        self.work.append(("close", 2))
        self.built.append(token != "not ")
        if token == "not ":
            self.work.append(("atom", None))
        else:
            self.go_on_atom(token, None)

    def go_on_atom(self, token, scope):
        if token.rstrip("(") in self.predicate_places:
            self.go_on_name(token, self.predicate_places, scope)
        else:
            self.built.append("=")
            self.work.extend([("close", 3), ("word", scope), ("signs", " = ")])
            self.go_on_word(token, scope)

    def go_on_word(self, token, scope):
        if token[0] in CAPITALS:
            self.built.append(token)
        else:
            self.go_on_name(token, self.function_places, scope)

    def go_on_name(self, token, places, scope):
        name = token.rstrip("(")
        if name == token:
            self.built.append((name,))
        else:
            self.built.append(name)
            self.work.extend([("close", places[name] + 1), ("signs", ")")])
            self.work.extend([("word", scope), ("signs", ", ")] * (places[name] - 1) + [("word", scope)])
