"""Where rules meet: words that both can change at places that overlap."""

from eithershown.exchange import exchanged, part_at, variables_in, with_part
from eithershown.laying import calls_apart
from eithershown.rewriting import checked_rules, lasting
from eithershown.unifying import most_general
from eithershown.words import places_in


def pair_variables(pair):
    """The variables as they first stand."""
    return list({variable: True for word in pair for variable in variables_in(word)})


def told_calls(pair):
    """V0, V1, .. for the variables as they first stand."""
    return {variable: f"V{at}" for at, variable in enumerate(pair_variables(pair))}


def told_pair(pair):
    calls = told_calls(pair)
    return exchanged(pair[0], calls), exchanged(pair[1], calls)


def inner_places(word):
    """The places where no variable stands."""
    return [place for place in places_in(word) if not isinstance(part_at(word, place), str)]


def meeting_at(one, other, place):
    """The substitution and the pair with which two rules, whose variables are apart, meet at a place; or None."""
    found = most_general([(part_at(one[0], place), other[0])])
    if found is None:
        return None
    return found, (exchanged(one[1], found), exchanged(with_part(one[0], place, other[1]), found))


def apart_calls(one, other):
    """What the other rule's variables are called, apart from those of the one."""
    return calls_apart(pair_variables(other), pair_variables(one))


def meetings_of(one, other, is_itself):
    """The pairs (place, pair) with which two rules meet, by places."""
    calls = apart_calls(one, other)
    apart = (exchanged(other[0], calls), exchanged(other[1], calls))
    told = []
    for place in inner_places(one[0]):
        if len(place) > 0 or not is_itself:
            met = meeting_at(one, apart, place)
            if met is not None:
                told.append((list(place), told_pair(met[1])))
    return told


def meetings_among(rules):
    told = []
    for at, one in enumerate(rules):
        for later, other in enumerate(rules):
            told.extend([(at, later, place, pair) for place, pair in meetings_of(one, other, at == later)])
    return told


def unjoined_among(rules):
    """What unjoined tells of right rules."""
    for meeting in meetings_among(rules):
        one, other = meeting[3]
        lasts = (lasting(rules, one)[0], lasting(rules, other)[0])
        if lasts[0] != lasts[1]:
            return meeting, lasts
    return None


def meetings(order, rules):
    return meetings_among(checked_rules(order, rules))


def unjoined(order, rules):
    return unjoined_among(checked_rules(order, rules))
