"""A slow reader of its own kind, which the tests hold against the package's: it goes on by all stacks of what may
still come at once. A text is wrong at the first sign behind which no stack is left.

Items of a stack, last first to come: strings, and tuples for what may come in several ways.
"""

LETTERS = "abcdefghijklmnopqrstuvwxyz"
CAPITALS = LETTERS.upper()
FIGURES = "0123456789"


def separated(item, between, many):
    """Items of a stack for many of one kind."""
    told = []
    for index in range(many):
        told.append(item)
        if index + 1 < many:
            told.append(between)
    return told


class Oracle:
    def __init__(self, names):
        self.functions = names.functions()
        self.predicates = names.predicates()

    def can_end(self, scope):
        return scope is None or len(scope) > 0 or 0 in [arity for name, arity in self.functions]

    def named(self, pairs, scope):
        ways = []
        for name, arity in pairs:
            if arity == 0:
                ways.append([name])
            elif self.can_end(scope):
                ways.append([name + "("] + separated(("word", scope), ", ", arity) + [")"])
        return ways

    def ways(self, item):
        """The rows of items that an item may give way to; None if it is read sign by sign."""
        if isinstance(item, str):
            return None
        kind = item[0]
        method = getattr(self, "ways_of_" + kind, None)
        return None if method is None else method(*item[1:])

    def ways_of_word(self, scope):
        ways = self.named(self.functions, scope)
        if scope is None:
            ways.append([("variable", "", (), None)])
        else:
            ways.extend([[variable] for variable in scope])
        return ways

    def ways_of_atom(self, scope):
        ways = self.named(self.predicates, scope)
        if self.can_end(scope):
            ways.append([("word", scope), " = ", ("word", scope)])
        return ways

    def ways_of_sentence(self, scope):
        ways = [[("atom", scope)], ["not ", ("sentence", scope)]]
        for word in ("and", "or", "then", "iff"):
            ways.append(["(", ("sentence", scope), f" {word} ", ("sentence", scope), ")"])
        for word in ("all ", "some "):
            ways.append([word, ("bound", "", scope)])
        return ways

    def ways_of_literal(self):
        return [[("atom", None)], ["not ", ("atom", None)]]

    def ways_of_clause(self):
        return [["false\n"], [("literal",), ("literals",)]]

    def ways_of_literals(self):
        return [["\n"], [" or ", ("literal",), ("literals",)]]

    def ways_of_clauses(self):
        return [[], [("clause",), ("clauses",)]]

    def ways_of_premise(self):
        return [[("number", "")], [("number", ""), " by ", ("pair", (), "word")]]

    def ways_of_pair(self, used, kind):
        return [[("variable", "", used, kind)]]

    def ways_of_pairs(self, used, kind):
        return [[], [", ", ("pair", used, kind)]]

    def ways_of_rows(self):
        return [[], [("row",), ("rows",)]]

    def ways_of_row(self):
        word, atom, premise = ("word", None), ("atom", None), ("premise",)
        heads = [["given ", ("number", "")], ["instance ", premise],
                 ["resolve ", premise, ", ", premise, " on ", atom],
                 ["replace ", premise, ", ", premise, " put ", word, " for ", word, " in ", ("literal",), " at ",
                  ("number", ""), ("places",)],
                 ["same ", premise, " of ", word], ["alike of ", word], ["either of ", atom],
                 ["turned of ", word, ", ", word], ["chained of ", word, ", ", word, ", ", word],
                 ["parts of ", word, ", ", word], ["holds of ", atom, ", ", atom]]
        return [head + [": ", ("clause",)] for head in heads]

    def ways_of_places(self):
        return [[], [" ", ("number", ""), ("places",)]]

    def ways_of_open(self):
        return [["open ", ("number", ""), " ", ("number", ""), "\n", ("classes",)]]

    def ways_of_classes(self):
        return [[("facts",)], ["class ", ("word", None), ("words",), "\n", ("classes",)]]

    def ways_of_words(self):
        return [[], [", ", ("word", None), ("words",)]]

    def ways_of_facts(self):
        told = [["fact " + name] + [" ", ("number", "")] * arity + ["\n", ("facts",)] for name, arity in self.predicates]
        return [[("trees", 1)]] + told

    def ways_of_trees(self, number):
        return [[], [f"size {number}\n", ("tree",), ("trees", number + 1)]]

    def ways_of_tree(self):
        cells = [["cell " + name] + [" ", ("number", "")] * arity + [" into ", ("into", "")]
                 for name, arity in self.functions + self.predicates]
        return cells + [["clash ", ("number", ""), "\n"],
                        ["clash ", ("number", ""), " by ", ("pair", (), "number"), "\n"]]

    def ways_of_follows(self):
        return [["follows ", ("number", ""), "\n", ("rows",)]]

    def settled(self, stacks):
        """All stacks whose next item is read sign by sign."""
        told, work = set(), list(stacks)
        while work:
            stack = work.pop()
            ways = self.ways(stack[-1]) if stack else None
            if ways is None:
                if stack and stack[-1][0] == "number" and stack[-1][1] != "":
                    work.append(stack[:-1])
                if stack and stack[-1][0] == "variable" and stack[-1][1] != "" and stack[-1][3] is None:
                    work.append(stack[:-1])
                told.add(stack)
            else:
                work.extend([stack[:-1] + tuple(way[::-1]) for way in ways])
        return told

    def behind(self, stack, sign):
        """The stacks behind a sign."""
        if not stack:
            return []
        item, rest = stack[-1], stack[:-1]
        if isinstance(item, str):
            if sign != item[0]:
                return []
            return [rest + ((item[1:],) if len(item) > 1 else ())]
        kind, told = item[0], item[1]
        if kind in ("number", "into") and sign in FIGURES and told != "0" and len(told) < 9:
            return [rest + ((kind, told + sign),)]
        if kind == "into" and sign == "\n" and told != "":
            return [rest + (("tree",),) * int(told)] if int(told) < 9 else [rest + (("tree",),) * 9]
        if kind in ("bound", "variable") and len(told) < 8 and sign in (FIGURES if told else CAPITALS):
            if kind == "variable" and len(told) == 7 and told + sign in item[2]:
                return []
            return [rest + ((kind, told + sign) + item[2:],)]
        if kind == "bound" and sign == ":" and told != "":
            return [rest + (("sentence", item[2] + (told,)), " ")]
        if kind == "variable" and sign == " " and told != "" and told not in item[2] and item[3] is not None:
            filler = ("word", None) if item[3] == "word" else ("number", "")
            return [rest + (("pairs", item[2] + (told,), item[3]), filler, "= ")]
        return []

    def fault(self, start, text):
        """The first wrong sign of a text that should be of a kind, None for a text that is."""
        if not isinstance(text, str):
            return (0, 0)
        stacks = self.settled([(start,)])
        line, place = 1, 1
        for sign in text:
            later = []
            for stack in stacks:
                later.extend(self.behind(stack, sign))
            stacks = self.settled(later)
            if not stacks:
                return (line, place)
            line, place = (line + 1, 1) if sign == "\n" else (line, place + 1)
        return None if () in stacks else (line, place)


def changed(chance, text, signs):
    """The text with a sign more, fewer, otherwise, or cut."""
    at = chance.randrange(len(text) + 1)
    way = chance.randrange(5)
    if way == 0:
        return text[:at] + chance.choice(signs) + text[at:]
    if way == 1:
        return text[:at] + text[at + 1:]
    if way == 2:
        return text[:at] + chance.choice(signs) + text[at + 1:]
    if way == 3 and at + 1 < len(text):
        return text[:at] + text[at + 1] + text[at] + text[at + 2:]
    return text[:at]
