"""Most general substitutions that make words one, and papers that show why there is none."""

from eithershown.errors import BadPairs
from eithershown.fitting import is_any_atom, is_any_word
from eithershown.kinds import bad_index, frozen, is_list, is_number, is_pair
from eithershown.unionrows import paper_of
from eithershown.unions import Union

# How many numbers stand behind each reason's word.
REASONS = {"given": 1, "turned": 1, "joined": 2, "part": 2}


def is_word_pair(thing):
    if not is_pair(thing):
        return False
    one, other = thing
    return (is_any_word(one) and is_any_word(other)) or (is_any_atom(one) and is_any_atom(other))


def checked_pairs(pairs):
    index = bad_index(pairs, is_word_pair)
    if index is not None:
        raise BadPairs(index)
    return [frozen(pair) for pair in pairs]


def most_general(pairs):
    """What unify tells of pairs made of tuples."""
    union = Union(pairs)
    if union.why() is not None:
        return None
    words = union.built()
    return {variable: words[variable] for variable in sorted(words) if words[variable] != variable}


def unify(pairs):
    return most_general(checked_pairs(pairs))


def unify_paper(pairs):
    union = Union(checked_pairs(pairs))
    why = union.why()
    return None if why is None else paper_of(union, why)


def are_indexes(thing, many):
    """Whether it is a list of so many numbers."""
    return is_list(thing) and len(thing) == many and len([at for at in thing if not is_number(at)]) == 0


def go_together(one, other):
    """Whether both are no variables, of one name and length."""
    return not isinstance(one, str) and not isinstance(other, str) and one[0] == other[0] and len(one) == len(other)


def told_by_reason(pairs, ahead, reason):
    """The pair that a reason tells behind pairs of rows ahead, None if it tells nothing."""
    if not is_list(reason) or len(reason) == 0 or not isinstance(reason[0], str):
        return None
    kind, numbers = reason[0], reason[1:]
    if kind not in REASONS or not are_indexes(numbers, REASONS[kind]):
        return None
    sources = pairs if kind == "given" else ahead
    if numbers[0] >= len(sources):
        return None
    one, other = sources[numbers[0]]
    if kind == "given":
        return (one, other)
    if kind == "turned":
        return (other, one)
    if kind == "joined":
        is_next = numbers[1] < len(ahead) and ahead[numbers[1]][0] == other
        return (one, ahead[numbers[1]][1]) if is_next else None
    if not go_together(one, other) or numbers[1] >= len(one) - 1:
        return None
    return (one[numbers[1] + 1], other[numbers[1] + 1])


def row_pairs(pairs, rows):
    """The pairs of all rows, None if one of them is wrong."""
    told = []
    for row in rows:
        if not is_list(row) or len(row) != 3:
            return None
        pair = told_by_reason(pairs, told, row[2])
        if pair is None or frozen((row[0], row[1])) != pair:
            return None
        told.append(pair)
    return told


def stands_in(variable, word):
    """Whether a variable stands in a word; no other word counts as one that does."""
    if isinstance(word, str):
        return word == variable
    return len([part for part in word[1:] if stands_in(variable, part)]) > 0


def is_ring(told, rows):
    """Whether each of these rows says that a variable is a word, in which the next one's variable stands."""
    if len(rows) == 0 or len([at for at in rows if at >= len(told)]) > 0:
        return False
    links = [told[at] for at in rows]
    for link, later in zip(links, links[1:] + links[:1]):
        if isinstance(link[1], str) or not stands_in(later[0], link[1]):
            return False
    return True


def is_end(told, thing):
    if not is_pair(thing):
        return False
    if thing[0] == "ring":
        return is_list(thing[1]) and are_indexes(thing[1], len(thing[1])) and is_ring(told, thing[1])
    if thing[0] != "clash" or not is_number(thing[1]) or thing[1] >= len(told):
        return False
    one, other = told[thing[1]]
    return not isinstance(one, str) and not isinstance(other, str) and not go_together(one, other)


def is_unify_paper(pairs, thing):
    given = checked_pairs(pairs)
    if not is_pair(thing) or not is_list(thing[0]):
        return False
    told = row_pairs(given, thing[0])
    return told is not None and is_end(told, thing[1])
