"""The ground words that functions and constants make, by depths."""

from eithershown.clausenames import bad_names_index, names_of
from eithershown.coining import Coiner
from eithershown.errors import BadClauses, BadDepth, BadSymbols
from eithershown.kinds import bad_pair, frozen, is_arity, is_number
from eithershown.tables import power
from eithershown.worlds import all_rows
from eithershown.writing import written


def checked_named_clauses(clauses):
    """The clauses made of tuples, each of their names being of one kind and of one number of words."""
    index = bad_names_index(clauses)
    if index is not None:
        raise BadClauses(index)
    return [frozen(clause) for clause in clauses]


def with_constant(clauses):
    """The clauses, with k1 = k1 behind them if no constant stands there."""
    names = names_of(clauses)
    if 0 in [names.functions[name] for name in names.functions]:
        return clauses
    word = (Coiner(list(names.functions) + list(names.predicates)).coin("k"),)
    return clauses + [((True, ("=", word, word)),)]


def symbols_in(clauses):
    names = names_of(clauses)
    return [(name, names.functions[name]) for name in sorted(names.functions)]


def symbols_of(clauses):
    return symbols_in(with_constant(checked_named_clauses(clauses)))


def check_symbols(symbols):
    index = bad_pair(symbols, [], is_arity)
    if index is not None:
        raise BadSymbols(index)


def check_depth(depth):
    if not is_number(depth):
        raise BadDepth(depth)


def words_of_depth(symbols, shallow, deepest):
    """The words one deeper than the deepest ones, behind shallow ones, ascending."""
    ahead = shallow + deepest
    told = []
    for name, arity in symbols:
        if arity > 0:
            for row in all_rows(len(ahead), arity):
                if max(row) >= len(shallow):
                    told.append((name,) + tuple([ahead[at] for at in row]))
    return sorted(told, key=written)


def words_to(symbols, depth):
    told = []
    deepest = sorted([(name,) for name, arity in symbols if arity == 0], key=written)
    for _ in range(depth):
        if len(deepest) == 0:
            return told
        deeper = words_of_depth(symbols, told, deepest)
        told = told + deepest
        deepest = deeper
    return told + deepest


def words_at(symbols, depth):
    check_symbols(symbols)
    check_depth(depth)
    return words_to(symbols, depth)


def count_to(symbols, depth):
    count = 0
    for _ in range(depth + 1):
        more = sum([power(count, arity) for _, arity in symbols])
        # Where a depth has no words more, no greater one has.
        if more == count:
            return count
        count = more
    return count


def count_words(symbols, depth):
    check_symbols(symbols)
    check_depth(depth)
    return count_to(symbols, depth)
