"""Words, sentences, clauses, worlds and papers made by chance, and the examples of the document."""

from eithershown.signatures import Names

M = """function soc 0
predicate man 1
predicate mortal 1
axiom a1: all X: (man(X) then mortal(X))
axiom a2: man(soc)
goal: mortal(soc)
"""
S = """predicate p 1
axiom a1: some X: p(X)
goal: all X: p(X)
"""
N = """function next 1
predicate less 2
predicate odd 0
axiom a1: all X: less(X, next(X))
axiom a2: all X: all Y: all Z: ((less(X, Y) and less(Y, Z)) then less(X, Z))
axiom a3: all X: not less(X, X)
goal: odd
"""
M_NAMES = Names([("soc", 0)], [("man", 1), ("mortal", 1)])
SMALL = Names([("c", 0), ("f", 1), ("g", 2)], [("p", 1), ("q", 0), ("r", 2)])
E = (2, {"c": {(): 0}, "f": {(0,): 1, (1,): 0}}, {"p": [(0,)]})
NO_CONSTANT = Names([("f", 1)], [("p", 1), ("pq", 0)])
BARE = Names([], [])
CLOSE = Names([("a", 0), ("al", 1), ("nota", 0)], [("no", 0), ("alla", 1), ("som", 2), ("fals", 0)])

# Objects of all kinds, for what is asked about any object.
THINGS = (None, True, False, 0, 1, -1, 10 ** 12, "", "X", "c", "p", "not", "=", [], (), {}, {"X": "Y"}, [[]], (None,),
          ("p",), ["p", "X"], ("p", "X", "X"), ("p", ("p", "X")), ("q",), ("not",), ("not", None), ("and", ("q",)),
          ("all", "x", ("q",)), ("all", "X", None), ("=", "X"), ("=", "X", "X", "X"), len, SMALL, (1, 2), [("q",)],
          [(True, ("q",))], [(1, ("q",))], [(True, "X")], [(None, ("q",))], ("X",), (("c",),), {"c": ("c",)},
          ([], {}, {}), (0, {}, {}), (True, {}, {}), (1, {}, []), (1, [], {}), "all X: X = X", ("X", "X"))


def some_word(chance, names, depth, variables):
    choices = [pair for pair in names.functions() if depth > 0 or pair[1] == 0]
    if variables and (not choices or chance.random() < 0.4):
        return chance.choice(variables)
    if not choices:
        return "X"
    name, arity = chance.choice(choices)
    return (name,) + tuple([some_word(chance, names, depth - 1, variables) for _ in range(arity)])


def some_atom(chance, names, variables):
    pairs = names.predicates() + [("=", 2)]
    name, arity = chance.choice(pairs)
    return (name,) + tuple([some_word(chance, names, 2, variables) for _ in range(arity)])


def some_sentence(chance, names, depth, scope, variables=("X", "Y", "X1", "V0", "V1")):
    if depth == 0 or chance.random() < 0.1:
        if scope or [pair for pair in names.functions() if pair[1] == 0]:
            return some_atom(chance, names, scope)
        return ("all", "X", ("=", "X", "X"))
    head = chance.choice(["not", "and", "or", "then", "iff", "all", "some", "all", "some"])
    if head == "not":
        return ("not", some_sentence(chance, names, depth - 1, scope, variables))
    if head in ("all", "some"):
        variable = chance.choice(variables)
        return (head, variable, some_sentence(chance, names, depth - 1, scope + (variable,), variables))
    return (head,) + tuple([some_sentence(chance, names, depth - 1, scope, variables) for _ in range(2)])


def some_literal(chance, names):
    return (chance.random() < 0.5, some_atom(chance, names, ("X", "Y", "Z12")))


def some_clause(chance, names, most):
    told = []
    for _ in range(chance.randrange(most + 1)):
        literal = some_literal(chance, names)
        if literal not in told:
            told.append(literal)
    return told


def some_substitution(chance, names, most=3):
    variables = sorted(chance.sample(["X", "Y", "Z12", "A1234567", "B"], chance.randrange(most + 1)))
    return {variable: some_word(chance, names, 2, ("X", "Y")) for variable in variables}


def some_row(chance, names):
    """A row of right form."""
    def word():
        return some_word(chance, names, 2, ("X", "Y"))

    def atom():
        return some_atom(chance, names, ("X", "Y"))

    rule = chance.choice(["given", "instance", "resolve", "replace", "same", "alike", "either", "turned", "chained",
                          "parts", "holds"])
    many = {"given": 1, "instance": 1, "resolve": 2, "replace": 2, "same": 1}.get(rule, 0)
    premises = [chance.choice([0, 1, 7, 10, 123456789]) for _ in range(many)]
    substitutions = [] if rule == "given" else [some_substitution(chance, names) for _ in range(many)]
    spot = {"given": lambda: None, "instance": lambda: None, "resolve": atom,
            "replace": lambda: (word(), word(), some_literal(chance, names), [chance.randrange(3) for _ in range(2)]),
            "same": word, "alike": word, "either": atom, "turned": lambda: (word(), word()),
            "chained": lambda: (word(), word(), word()), "parts": lambda: (word(), word()),
            "holds": lambda: (atom(), atom())}[rule]()
    return (rule, premises, substitutions, spot, some_clause(chance, names, 3))


def some_tree(chance, names, depth):
    if depth == 0 or chance.random() < 0.3:
        variables = sorted(chance.sample(["X", "X1", "X2", "Y1234567"], chance.randrange(4)))
        return ("clash", chance.randrange(20), {variable: chance.randrange(12) for variable in variables})
    name, arity = chance.choice(names.functions() + names.predicates())
    row = [chance.randrange(12) for _ in range(arity)]
    return ("cell", name, row, [some_tree(chance, names, depth - 1) for _ in range(chance.randrange(4))])


def some_open(chance, names):
    classes = [[some_word(chance, names, 2, ("X",)) for _ in range(1 + chance.randrange(3))]
               for _ in range(chance.randrange(4))]
    facts = []
    for _ in range(chance.randrange(4)):
        name, arity = chance.choice(names.predicates())
        facts.append((name, [chance.randrange(12) for _ in range(arity)]))
    trees = [some_tree(chance, names, 3) for _ in range(chance.randrange(4))]
    return ("open", chance.randrange(12), chance.randrange(12), (classes, facts), trees)


def rows_of(many, arity):
    rows = [()]
    for _ in range(arity):
        rows = [row + (thing,) for row in rows for thing in range(many)]
    return rows


def some_world(chance, names, many):
    functions = {name: {row: chance.randrange(many) for row in rows_of(many, arity)}
                 for name, arity in names.functions()}
    predicates = {name: [row for row in rows_of(many, arity) if chance.random() < 0.5]
                  for name, arity in names.predicates()}
    return (many, functions, predicates)


def as_lists(thing):
    """Lists for tuples at every depth, but for the keys of dicts."""
    if isinstance(thing, (list, tuple)):
        return [as_lists(part) for part in thing]
    if isinstance(thing, dict):
        return {key: as_lists(thing[key]) for key in list(thing)[::-1]}
    return thing


def as_tuples(thing):
    if isinstance(thing, (list, tuple)):
        return tuple([as_tuples(part) for part in thing])
    if isinstance(thing, dict):
        return {key: as_tuples(thing[key]) for key in list(thing)[::-1]}
    return thing


def kinds(thing):
    """The thing with the word of its kind at each place, so that lists and tuples are told apart."""
    if isinstance(thing, (list, tuple)):
        return (type(thing).__name__,) + tuple([kinds(part) for part in thing])
    if isinstance(thing, dict):
        return ("dict",) + tuple([(kinds(key), kinds(thing[key])) for key in thing])
    return (type(thing).__name__, thing)
