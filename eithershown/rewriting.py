"""Words exchanged by rules, whose first word is above the second one."""

from eithershown.errors import BadRules, BadWord
from eithershown.exchange import exchanged, part_at, with_part
from eithershown.fitting import is_any_word
from eithershown.kinds import bad_index, frozen, is_pair
from eithershown.orders import check_order, first_unordered, is_above
from eithershown.puts import why_unmatched
from eithershown.words import places_in


def is_word_equation(thing):
    return is_pair(thing) and is_any_word(thing[0]) and is_any_word(thing[1])


def is_ordered_equation(order, thing):
    """Whether it is a pair of words whose names the order has."""
    return is_word_equation(thing) and len([word for word in thing if first_unordered(order, word) is not None]) == 0


def is_rule(order, thing):
    if not is_ordered_equation(order, thing):
        return False
    first, second = frozen(thing)
    return is_above(order, first, second)


def checked_rules(order, rules):
    """The rules made of tuples, all right by a right order."""
    check_order(order)
    index = bad_index(rules, lambda thing: is_rule(order, thing))
    if index is not None:
        raise BadRules(index)
    return [frozen(rule) for rule in rules]


def checked_plain_word(thing):
    if not is_any_word(thing):
        raise BadWord(thing)
    return frozen(thing)


def found_in(pattern, word):
    """The substitution that makes a pattern the word, None if there is none."""
    found = {}
    if why_unmatched(pattern, word, [], {}, found) is not None:
        return None
    return {variable: found[variable] for variable in sorted(found)}


def steps_of(rules, word):
    """All steps of a word, each with the word behind it."""
    told = []
    for place in places_in(word):
        part = part_at(word, place)
        for index, (first, second) in enumerate(rules):
            found = found_in(first, part)
            if found is not None:
                told.append(((index, list(place), found), with_part(word, place, exchanged(second, found))))
    return told


def first_step(rules, word):
    """The first of all steps with the word behind it, None if there is none."""
    for place in places_in(word):
        part = part_at(word, place)
        for index, (first, second) in enumerate(rules):
            found = found_in(first, part)
            if found is not None:
                return (index, list(place), found), with_part(word, place, exchanged(second, found))
    return None


def lasting(rules, word):
    """A word's last form, and the steps that lead there."""
    steps = []
    last = word
    ahead = first_step(rules, last)
    while ahead is not None:
        steps.append(ahead[0])
        last = ahead[1]
        ahead = first_step(rules, last)
    return last, steps


def steps_at(order, rules, word):
    told = checked_rules(order, rules)
    return steps_of(told, checked_plain_word(word))


def last_form(order, rules, word):
    told = checked_rules(order, rules)
    return lasting(told, checked_plain_word(word))
