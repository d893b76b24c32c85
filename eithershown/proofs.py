"""How pairs of words came of equations, and chains of these equations for them.

A chain is here a list of pairs (step, word behind it), the first one with no step, for the word where it begins; a
step is (index, way, place, words), words being put for all variables of the equation.
"""

from eithershown.exchange import exchanged, with_part
from eithershown.meetings import apart_calls, meeting_at, pair_variables, told_calls
from eithershown.writing import written


def turned_chain(chain):
    """The chain back."""
    told = [(None, chain[-1][1])]
    for at in range(len(chain) - 1, 0, -1):
        index, way, place, words = chain[at][0]
        told.append(((index, not way, place, words), chain[at - 1][1]))
    return told


def moved_chain(chain, substitution, word, place):
    """The chain by a substitution, at a place within a word."""
    told = []
    for step, part in chain:
        whole = with_part(word, place, exchanged(part, substitution))
        if step is None:
            told.append((None, whole))
        else:
            index, way, at, words = step
            now = {variable: exchanged(words[variable], substitution) for variable in words}
            told.append(((index, way, place + at, now), whole))
    return told


def joined_chain(one, later):
    """Two chains, the later one beginning where the one ends; what leads back to a word that stood is left out."""
    told = list(one)
    homes = {written(row[1]): at for at, row in enumerate(told)}
    for row in later[1:]:
        text = written(row[1])
        if text in homes:
            end = homes[text] + 1
            for gone in told[end:]:
                del homes[written(gone[1])]
            told = told[:end]
        else:
            homes[text] = len(told)
            told.append(row)
    return told


class Proofs:
    """Origins of pairs by numbers: each pair came of an equation; of another pair, whose words were made last; or of a
    meeting of two rules. Each origin names lesser numbers alone."""

    def __init__(self, equations):
        self.equations = equations
        self.origins = []
        self.chains = {}

    def take(self, origin):
        self.origins.append(origin)
        return len(self.origins) - 1

    def sources(self, number):
        """The numbers of the pairs of which one came."""
        origin = self.origins[number]
        if origin[0] == "given":
            return []
        if origin[0] == "met":
            return [origin[1][2], origin[2][2]]
        return [origin[1]] + [rule[2] for rule, _, _ in origin[2] + origin[3]]

    def chain(self, number):
        """The chain for a pair; those on which it hangs are made ahead, as calls may not go so deep."""
        needed = {number: True}
        for at in range(number, -1, -1):
            if at in needed and at not in self.chains:
                needed.update({source: True for source in self.sources(at)})
        for at in sorted(needed):
            if at not in self.chains:
                self.chains[at] = self.made(self.origins[at])
        return self.chains[number]

    def made(self, origin):
        if origin[0] == "given":
            return self.given_chain(origin[1])
        return self.met_chain(origin) if origin[0] == "met" else self.last_chain(origin)

    def given_chain(self, index):
        pair = self.equations[index]
        calls = told_calls(pair)
        words = {variable: calls[variable] for variable in pair_variables(pair)}
        return [(None, exchanged(pair[0], calls)), ((index, True, [], words), exchanged(pair[1], calls))]

    def met_chain(self, origin):
        """From the first rule's second word to its first one, and on by the second rule."""
        _, one, other, place = origin
        calls = apart_calls(one[:2], other[:2])
        apart = (exchanged(other[0], calls), exchanged(other[1], calls))
        found, pair = meeting_at(one, apart, place)
        word = exchanged(one[0], found)
        back = turned_chain(moved_chain(self.chains[one[2]], found, word, []))
        words = {variable: exchanged(calls.get(variable, variable), found) for variable in pair_variables(other[:2])}
        onward = moved_chain(self.chains[other[2]], words, word, place)
        return moved_chain(joined_chain(back, onward), told_calls(pair), word, [])

    def steps_chain(self, word, steps):
        """From a word by steps of rules."""
        told = [(None, word)]
        for rule, place, words in steps:
            told = joined_chain(told, moved_chain(self.chains[rule[2]], words, told[-1][1], place))
        return told

    def last_chain(self, origin):
        """From the first word's last form to the first word, on to the second one, and to its last form."""
        _, number, one_steps, other_steps, is_turned = origin
        chain = self.chains[number]
        back = turned_chain(self.steps_chain(chain[0][1], one_steps))
        told = joined_chain(joined_chain(back, chain), self.steps_chain(chain[-1][1], other_steps))
        told = turned_chain(told) if is_turned else told
        return moved_chain(told, told_calls((told[0][1], told[-1][1])), told[0][1], [])

    def rows(self, number):
        """The chain for a pair, as it is told."""
        return [(index, way, list(place), {variable: words[variable] for variable in sorted(words)})
                for index, way, place, words in [row[0] for row in self.chain(number)[1:]]]
