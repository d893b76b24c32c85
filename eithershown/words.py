"""Words and atoms of whatever names, and the places in them."""

from eithershown.errors import BadPlace, BadWord
from eithershown.exchange import part_at, variables_in, with_part
from eithershown.fitting import is_any_atom, is_any_word, is_equality
from eithershown.kinds import frozen, is_list, is_number


def checked_word(thing):
    """The word or atom made of tuples."""
    if not is_any_word(thing) and not is_any_atom(thing):
        raise BadWord(thing)
    return frozen(thing)


def check_place(word, place):
    if not is_list(place) or len([index for index in place if not is_number(index)]) > 0:
        raise BadPlace(place)
    if part_at(word, place) is None:
        raise BadPlace(place)


def places_in(word):
    told = [[]]
    if not isinstance(word, str):
        for index, part in enumerate(word[1:]):
            told.extend([[index] + place for place in places_in(part)])
    return told


def places(word):
    return places_in(checked_word(word))


def word_at(word, place):
    told = checked_word(word)
    check_place(told, place)
    return part_at(told, place)


def word_put(word, place, part):
    told = checked_word(word)
    check_place(told, place)
    # An equality is no word, so it can only be put for the whole.
    if len(place) > 0 and is_equality(part):
        raise BadWord(part)
    return with_part(told, place, checked_word(part))


def depth_of(word):
    if isinstance(word, str) or len(word) == 1:
        return 0
    return 1 + max([depth_of(part) for part in word[1:]])


def depth(word):
    return depth_of(checked_word(word))


def variables_of(word):
    return variables_in(checked_word(word))
