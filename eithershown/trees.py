"""Trees that show that clauses have no world of so many things."""

from eithershown.clausenames import names_of
from eithershown.exchange import clause_variables
from eithershown.kinds import is_list
from eithershown.sizing import branches_due, checked_sized
from eithershown.tables import is_row, is_thing


def is_clash(thing):
    return is_list(thing) and len(thing) == 3 and thing[0] == "clash"


def is_cell(thing):
    return is_list(thing) and len(thing) == 4 and thing[0] == "cell" and is_list(thing[2]) and is_list(thing[3])


def worth_told(told, word, giving):
    """The value of a word, or of an atom but an equality, by the cells that are told; None if one is not."""
    if isinstance(word, str):
        return giving[word]
    row = [worth_told(told, part, giving) for part in word[1:]]
    return None if None in row else told.get((word[0], tuple(row)))


def truth_told(told, atom, giving):
    """Whether an atom is true by the cells that are told, None if one is not."""
    if atom[0] != "=":
        return worth_told(told, atom, giving)
    one, other = worth_told(told, atom[1], giving), worth_told(told, atom[2], giving)
    return None if one is None or other is None else one == other


class TreeJudge:
    """Tells what is wrong at the places of trees."""

    def __init__(self, clauses, many):
        self.clauses = clauses
        self.many = many
        self.names = names_of(clauses)

    def why_wrong(self, tree, told, greatest):
        """What is wrong at a place, None if nothing is; told are the cells on the way, with the greatest thing."""
        if is_clash(tree):
            return self.why_no_clash(tree[1], tree[2], told)
        if not is_cell(tree):
            return "form"
        _, name, row, trees = tree
        if not self.is_cell_here(name, row) or (name, tuple(row)) in told:
            return "cell"
        return None if len(trees) == self.branches(name, row, greatest) else "branches"

    def is_cell_here(self, name, row):
        if not isinstance(name, str):
            return False
        arity = self.names.functions.get(name, self.names.predicates.get(name))
        return arity is not None and is_row(self.many, arity, row)

    def branches(self, name, row, greatest):
        if name in self.names.predicates:
            return 2
        return branches_due(self.many, max([greatest] + list(row)))

    def why_no_clash(self, index, giving, told):
        if not is_thing(len(self.clauses), index) or not self.is_giving(clause_variables(self.clauses[index]), giving):
            return "clause"
        truths = [(is_so, truth_told(told, atom, giving)) for is_so, atom in self.clauses[index]]
        if None in [truth for _, truth in truths]:
            return "untold"
        return "true" if len([is_so for is_so, truth in truths if is_so == truth]) > 0 else None

    def is_giving(self, variables, giving):
        if not isinstance(giving, dict) or len(giving) != len(variables):
            return False
        return len([name for name in variables if name in giving and is_thing(self.many, giving[name])]) == len(giving)

    def branch(self, tree, index, told, greatest):
        """The cells that are told, and the greatest thing on the way, in one of a cell's trees."""
        name, row = tree[1], tuple(tree[2])
        if name in self.names.predicates:
            return {**told, (name, row): index == 1}, max([greatest] + list(row))
        return {**told, (name, row): index}, max([greatest, index] + list(row))


def tree_fault(clauses, many, thing):
    judge = TreeJudge(checked_sized(clauses, many), many)
    work = [(thing, [], {}, -1)]
    while len(work) > 0:
        tree, way, told, greatest = work.pop()
        why = judge.why_wrong(tree, told, greatest)
        if why is not None:
            return (way, why)
        if is_cell(tree):
            for index in range(len(tree[3]) - 1, -1, -1):
                within, most = judge.branch(tree, index, told, greatest)
                work.append((tree[3][index], way + [index], within, most))
    return None


def tree_size(tree):
    count = 0
    work = [tree]
    while len(work) > 0:
        part = work.pop()
        count += 1
        if part[0] == "cell":
            work.extend(part[3])
    return count
