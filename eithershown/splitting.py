"""Ground clauses: a table of truths by which all hold, or a refutation."""

from eithershown.classing import is_ground_word, lots_of
from eithershown.errors import HasVariables
from eithershown.exchange import clause_variables
from eithershown.groundset import GroundSet
from eithershown.groundwords import checked_named_clauses
from eithershown.kinds import bad_index, frozen, is_list, is_name, is_pair
from eithershown.refuting import Refuter
from eithershown.rowforms import are_numbers
from eithershown.truthsearch import TruthSearch
from eithershown.writing import written


def checked_ground(clauses):
    told = checked_named_clauses(clauses)
    for index, clause in enumerate(told):
        if len(clause_variables(clause)) > 0:
            raise HasVariables(index)
    return told


def is_word_list(thing):
    return is_list(thing) and len(thing) > 0 and bad_index(thing, is_ground_word) is None


def is_fact(thing):
    return is_pair(thing) and is_name(thing[0]) and are_numbers(thing[1])


def has_table_form(thing):
    return is_pair(thing) and bad_index(thing[0], is_word_list) is None and bad_index(thing[1], is_fact) is None


class TableView:
    """A table of right form, asked for the truth of atoms."""

    def __init__(self, lots, facts):
        self.words = [frozen(word) for lot in lots for word in lot]
        self.homes = {written(word): at for at, lot in enumerate(lots) for word in lot}
        self.facts = {(fact[0],) + tuple(fact[1]): True for fact in facts}

    def home_of(self, word):
        return self.homes[written(word)]

    def row_of(self, word):
        """A word's or an atom's name, and the classes of its parts."""
        return (word[0],) + tuple([self.home_of(part) for part in word[1:]])

    def torn(self, words):
        """The first two of ascending words that are in two classes though their parts are in the same; or None."""
        rows = [self.row_of(word) for word in words]
        for at, one in enumerate(words):
            for later in range(at + 1, len(words)):
                if rows[later] == rows[at] and self.home_of(words[later]) != self.home_of(one):
                    return ("torn", one, words[later])
        return None

    def is_true(self, atom):
        row = self.row_of(atom)
        return row[1] == row[2] if atom[0] == "=" else row in self.facts

    def does_hold(self, clause):
        return len([atom for is_so, atom in clause if self.is_true(atom) == is_so]) > 0


def fault_of_table(clauses, thing):
    """What table_fault tells of clauses of right form."""
    if not has_table_form(thing):
        return ("form",)
    ground = GroundSet(clauses)
    view = TableView(thing[0], thing[1])
    if sorted(view.words, key=written) != ground.words:
        return ("words",)
    torn = view.torn(ground.words)
    if torn is not None:
        return torn
    rows = {view.row_of(atom): True for atom in ground.atoms if atom[0] != "="}
    if len([fact for fact in view.facts if fact not in rows]) > 0:
        return ("facts",)
    for index, clause in enumerate(clauses):
        if not view.does_hold(clause):
            return ("clause", index)
    return None


def table_fault(clauses, thing):
    return fault_of_table(checked_ground(clauses), thing)


def table_with(lots, true_atoms):
    """The table with these classes by which just these atoms, but for equalities, are true."""
    view = TableView(lots, [])
    facts = sorted(set([view.row_of(atom) for atom in true_atoms if atom[0] != "="]))
    return lots, [(fact[0], list(fact[1:])) for fact in facts]


def table_by(search):
    """The table of a search that has put all truths."""
    ground = search.ground
    true_atoms = [atom for number, atom in enumerate(ground.atoms) if search.truths[2 * number] is True]
    return table_with(lots_of(ground.words, search.closing), true_atoms)


def do_clash(clauses):
    """Whether clauses of right form have no table."""
    return not TruthSearch(GroundSet(clauses), clauses).search()


def answer_to(clauses):
    """What ground_answer tells of clauses of right form."""
    search = TruthSearch(GroundSet(clauses), clauses)
    if search.search():
        return ("table", table_by(search))
    return ("clash", Refuter(search, clauses).rows())


def ground_answer(clauses):
    return answer_to(checked_ground(clauses))
