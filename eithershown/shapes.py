"""Worlds whose things are called otherwise, turns between worlds, and sentences that tell a world."""

from eithershown.errors import BadTurn
from eithershown.kinds import is_list
from eithershown.signatures import check_names
from eithershown.tables import is_thing, told_world
from eithershown.worlds import all_rows


def is_turn(many, thing):
    if not is_list(thing) or len(thing) != many:
        return False
    return len([at for at in thing if not is_thing(many, at)]) == 0 and len(set(list(thing))) == many


def row_turned(row, turn):
    return tuple([turn[thing] for thing in row])


def world_turned(world, turn):
    many, functions, predicates = world
    tables = {name: {row_turned(row, turn): turn[functions[name][row]] for row in functions[name]}
              for name in functions}
    facts = {name: [row_turned(row, turn) for row in predicates[name]] for name in predicates}
    return told_world((many, tables, facts))


def turned(world, turn):
    if not is_turn(world[0], turn):
        raise BadTurn(turn)
    return world_turned(world, turn)


def looks(world):
    """For each thing a list of numbers that are the same for the thing that it becomes: how often it stands at each
    place of a true row, and how often a function tells it."""
    many, functions, predicates = world
    told = [[] for _ in range(many)]
    for name in sorted(functions):
        counts = [0] * many
        for row in functions[name]:
            counts[functions[name][row]] += 1
        for thing in range(many):
            told[thing].append(counts[thing])
    for name in sorted(predicates):
        for at in range(len(predicates[name][0]) if len(predicates[name]) > 0 else 0):
            counts = [0] * many
            for row in predicates[name]:
                counts[row[at]] += 1
            for thing in range(many):
                told[thing].append(counts[thing])
    return told


def truth_rows(world):
    """A dict from each name to a dict of truths: of a predicate for each row, of a function for those rows alone
    that its table tells, with the told thing behind."""
    many, functions, predicates = world
    told = {}
    for name in sorted(functions):
        told[name] = {tuple(row) + (functions[name][row],): True for row in functions[name]}
    for name in sorted(predicates):
        facts = {tuple(row): True for row in predicates[name]}
        arity = len(predicates[name][0]) if len(facts) > 0 else 0
        told[name] = {row: row in facts for row in all_rows(many, arity)}
    return told


class TurnSearch:
    """Looks for the first turn by which one world becomes another one, thing by thing."""

    def __init__(self, one, other):
        self.many = one[0]
        self.truths = truth_rows(other)
        self.due = [[] for _ in range(one[0])]
        mine = truth_rows(one)
        for name in mine:
            for row in mine[name]:
                self.due[max(list(row) + [0])].append((name, row, mine[name][row]))
        looks_there = looks(other)
        self.choices = [[thing for thing in range(one[0]) if looks_there[thing] == look] for look in looks(one)]
        self.turn = []

    def is_kept(self):
        """Whether all rows whose greatest thing is the last one that is turned have the truth of those there."""
        for name, row, is_so in self.due[len(self.turn) - 1]:
            if self.truths[name].get(row_turned(row, self.turn), False) != is_so:
                return False
        return True

    def search(self):
        if len(self.turn) == self.many:
            return True
        for thing in self.choices[len(self.turn)]:
            if thing not in self.turn:
                self.turn.append(thing)
                if self.is_kept() and self.search():
                    return True
                self.turn.pop()
        return False


def how_many_true(world):
    return [len(world[2][name]) for name in sorted(world[2])]


def turn_between(one, other):
    if one[0] != other[0] or how_many_true(one) != how_many_true(other):
        return None
    search = TurnSearch(one, other)
    return search.turn if search.search() else None


def in_pairs(head, parts):
    """One sentence of all parts, as flat as can be."""
    if len(parts) == 1:
        return parts[0]
    middle = len(parts) // 2
    return (head, in_pairs(head, parts[:middle]), in_pairs(head, parts[middle:]))


def facts_told(names, world, things):
    """Sentences of all that the tables tell, things being called by variables."""
    told = []
    for name, arity in names.functions():
        for row in all_rows(world[0], arity):
            told.append(("=", (name,) + row_turned(row, things), things[world[1][name][row]]))
    for name, arity in names.predicates():
        facts = {tuple(row): True for row in world[2][name]}
        for row in all_rows(world[0], arity):
            atom = (name,) + row_turned(row, things)
            told.append(atom if row in facts else ("not", atom))
    return told


def telling(names, world):
    check_names(names)
    many = world[0]
    things = [f"X{thing}" for thing in range(many)]
    unlike_things = [("not", ("=", one, other)) for at, one in enumerate(things) for other in things[at + 1:]]
    no_more = ("all", "Y", in_pairs("or", [("=", "Y", thing) for thing in things]))
    # What bars most choices of things stands first, so that it is found false soon.
    told = in_pairs("and", unlike_things + facts_told(names, world, things) + [no_more])
    for thing in things[::-1]:
        told = ("some", thing, told)
    return told
