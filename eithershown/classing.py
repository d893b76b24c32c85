"""Classes of ground words by equations, and chains from word to word."""

from eithershown.errors import BadEquations, BadWords, NoWord
from eithershown.exchange import part_at, with_part
from eithershown.fitting import word_fits
from eithershown.groundset import WordNodes, all_parts
from eithershown.kinds import bad_index, frozen, is_list, is_pair
from eithershown.rowforms import are_numbers
from eithershown.writing import written


def is_ground_word(thing):
    return word_fits(thing, None, ())


def checked_words(words):
    """The words made of tuples, all unlike and ground, their parts being among them."""
    if not is_list(words):
        raise BadWords(0)
    texts = {written(word): True for word in words if is_ground_word(word)}
    stood = {}
    for index, word in enumerate(words):
        if not is_ground_word(word) or written(word) in stood:
            raise BadWords(index)
        stood[written(word)] = True
        if len([part for part in all_parts(word) if written(part) not in texts]) > 0:
            raise BadWords(index)
    return [frozen(word) for word in words]


def checked_equations(equations, is_right):
    """The equations made of tuples, all of right words."""
    index = bad_index(equations, lambda thing: is_pair(thing) and is_right(thing[0]) and is_right(thing[1]))
    if index is not None:
        raise BadEquations(index)
    return [frozen(pair) for pair in equations]


def is_among(nodes, thing):
    return is_ground_word(thing) and written(thing) in nodes.indexes


def checked_nodes(words, equations):
    """The words as nodes, and these closed under the equations."""
    nodes = WordNodes(checked_words(words))
    closing = nodes.closing()
    for label, pair in enumerate(checked_equations(equations, lambda thing: is_among(nodes, thing))):
        closing.equate(nodes.node_of(pair[0]), nodes.node_of(pair[1]), label)
    closing.close()
    return nodes, closing


def lots_of(words, closing):
    """The words in lists of those that are together, in the order in which they stand."""
    lots = {}
    for node, word in enumerate(words):
        lots.setdefault(closing.forest.roots[node], []).append(word)
    return [lots[root] for root in lots]


def classes(words, equations):
    nodes, closing = checked_nodes(words, equations)
    lots = [sorted(lot, key=written) for lot in lots_of(nodes.words, closing)]
    return sorted(lots, key=lambda lot: written(lot[0]))


def chain(words, equations, one, other):
    nodes, closing = checked_nodes(words, equations)
    for thing in (one, other):
        if not is_among(nodes, thing):
            raise NoWord(thing)
    left, right = nodes.node_of(one), nodes.node_of(other)
    return closing.chain(left, right) if closing.are_together(left, right) else None


def behind_row(equations, word, row):
    """The word behind a row of a chain, None if the row is wrong."""
    if not is_list(row) or len(row) != 3 or not are_numbers(row[:1]) or row[0] >= len(equations):
        return None
    if (row[1] is not True and row[1] is not False) or not are_numbers(row[2]):
        return None
    first, second = equations[row[0]] if row[1] else equations[row[0]][::-1]
    return with_part(word, row[2], second) if part_at(word, row[2]) == first else None


def is_chain(equations, one, other, thing):
    told = checked_equations(equations, is_ground_word)
    for word in (one, other):
        if not is_ground_word(word):
            raise NoWord(word)
    if not is_list(thing):
        return False
    word = frozen(one)
    for row in thing:
        word = behind_row(told, word, row)
        if word is None:
            return False
    return word == frozen(other)
