"""Chains by which equations lead from word to word."""

from eithershown.errors import BadEquations, NotComplete
from eithershown.exchange import exchanged, frozen_substitution, part_at, with_part
from eithershown.fitting import is_any_substitution
from eithershown.kinds import bad_index, frozen, is_list, is_number
from eithershown.meetings import unjoined_among
from eithershown.rewriting import checked_plain_word, checked_rules, is_word_equation, lasting
from eithershown.rowforms import are_numbers


def equal_by(order, rules, one, other):
    told = checked_rules(order, rules)
    bar = unjoined_among(told)
    if bar is not None:
        raise NotComplete(bar[0])
    left, right = checked_plain_word(one), checked_plain_word(other)
    last, steps = lasting(told, left)
    other_last, other_steps = lasting(told, right)
    if last != other_last:
        return ("unlike", last, other_last)
    rows = [(index, True, place, words) for index, place, words in steps]
    return ("chain", rows + [(index, False, place, words) for index, place, words in other_steps[::-1]])


def is_chain_row(equations, thing):
    """Whether it is a row of an equation's index, a way, a place and a substitution."""
    return (is_list(thing) and len(thing) == 4 and is_number(thing[0]) and thing[0] < len(equations)
            and (thing[1] is True or thing[1] is False) and are_numbers(thing[2]) and is_any_substitution(thing[3]))


def behind_chain_row(equations, word, row):
    """The word behind a row, None if it does not change the word."""
    index, way, place, substitution = row
    words = frozen_substitution(substitution)
    first, second = equations[index] if way else equations[index][::-1]
    if part_at(word, place) != exchanged(first, words):
        return None
    return with_part(word, place, exchanged(second, words))


def is_word_chain(equations, one, other, thing):
    index = bad_index(equations, is_word_equation)
    if index is not None:
        raise BadEquations(index)
    told = [frozen(pair) for pair in equations]
    word, end = checked_plain_word(one), checked_plain_word(other)
    if not is_list(thing):
        return False
    for row in thing:
        word = behind_chain_row(told, word, row) if is_chain_row(told, row) else None
        if word is None:
            return False
    return word == end
