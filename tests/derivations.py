"""Derivations made by chance, by all rules."""

from eithershown.steps import instance_of, literal_at, replaced, resolved, same_gone
from eithershown.words import places, word_at
from tests.making import SMALL, some_atom, some_word

C, D = ("c",), ("d",)
VARIABLES = ("X", "Y", "V0")


def some_clauses(chance, many=4):
    told = []
    for _ in range(many):
        clause = []
        for _ in range(chance.randrange(1, 4)):
            atom = some_atom(chance, SMALL, VARIABLES)
            if chance.random() < 0.3:
                atom = ("=", some_word(chance, SMALL, 1, VARIABLES), some_word(chance, SMALL, 1, VARIABLES))
            clause.append((chance.random() < 0.5, atom))
        told.append(clause)
    return told


def some_words(chance, clause, is_ground):
    names = sorted({part for _, atom in clause for word in atom[1:] for part in flat(word) if isinstance(part, str)})
    return {name: some_word(chance, SMALL, 1, () if is_ground else VARIABLES) for name in names if is_ground or chance.random() < 0.7}


def flat(word):
    return [word_at(word, place) for place in places(word)]


def literal_places(literal):
    told = []
    for index, word in enumerate(literal[1][1:]):
        told.extend([[index] + place for place in places(word)])
    return told


def plain_row(chance):
    """A row without premises."""
    def word():
        return some_word(chance, SMALL, 2, VARIABLES)

    rule = chance.choice(["alike", "either", "turned", "chained", "parts", "holds"])
    one, two, three = word(), word(), word()
    if rule == "alike":
        return (rule, [], [], one, [(True, ("=", one, one))])
    if rule == "either":
        atom = some_atom(chance, SMALL, VARIABLES)
        return (rule, [], [], atom, [(True, atom), (False, atom)])
    if rule == "turned":
        return (rule, [], [], (one, two), [(False, ("=", one, two)), (True, ("=", two, one))])
    if rule == "chained":
        return (rule, [], [], (one, two, three), [(False, ("=", one, two)), (False, ("=", two, three)), (True, ("=", one, three))])
    if rule == "parts":
        return (rule, [], [], (("f", one), ("f", two)), [(False, ("=", one, two)), (True, ("=", ("f", one), ("f", two)))])
    return (rule, [], [], (("p", one), ("p", two)), [(False, ("=", one, two)), (False, ("p", one)), (True, ("p", two))])


def row_of_two(chance, rows, rule):
    """A row by resolve or replace of rows ahead, None if these do not fit."""
    at, later = chance.randrange(len(rows)), chance.randrange(len(rows))
    is_ground = chance.random() < 0.7
    words, others = [some_words(chance, rows[index][4], is_ground) for index in (at, later)]
    one, other = instance_of(rows[at][4], words), instance_of(rows[later][4], others)
    if rule == "resolve":
        atoms = [atom for is_so, atom in one if is_so and (False, atom) in other]
        if not atoms:
            return None
        atom = chance.choice(atoms)
        return (rule, [at, later], [words, others], atom, resolved(one, other, atom))
    spots = []
    for is_so, atom in one:
        if is_so and atom[0] == "=":
            for left, right in (atom[1:], atom[1:][::-1]):
                spots.extend([(left, right, literal, place) for literal in other for place in literal_places(literal)
                              if literal_at(literal, place) == left])
    if not spots:
        return None
    spot = chance.choice(spots)
    return (rule, [at, later], [words, others], spot, replaced(one, other, *spot))


def row_of_one(chance, rows, rule):
    at = chance.randrange(len(rows))
    words = some_words(chance, rows[at][4], chance.random() < 0.6)
    one = instance_of(rows[at][4], words)
    if rule == "instance":
        return (rule, [at], [words], None, one)
    same = [atom[1] for is_so, atom in one if not is_so and atom[0] == "=" and atom[1] == atom[2]]
    if not same:
        return None
    return (rule, [at], [words], same[0], same_gone(one, same[0]))


def some_derivation(chance, clauses, many):
    """Rows by all rules; clauses stay short, as long ones are seldom of use."""
    rows = []
    for index, clause in enumerate(clauses):
        rows.append(("given", [index], [], None, instance_of(clause, {})))
    tries = 0
    while len(rows) < many and tries < 400:
        tries += 1
        rule = chance.choice(["resolve", "resolve", "replace", "replace", "replace", "same", "same", "instance", "plain"])
        if rule == "plain":
            row = plain_row(chance) if chance.random() < 0.3 else None
        else:
            row = row_of_two(chance, rows, rule) if rule in ("resolve", "replace") else row_of_one(chance, rows, rule)
        if row is not None and len(row[4]) < 8 and max([0] + [len(flat(word)) for _, atom in row[4] for word in atom[1:]]) < 30:
            clause = list(row[4])
            chance.shuffle(clause)
            rows.append(row[:4] + (clause,))
    return rows
