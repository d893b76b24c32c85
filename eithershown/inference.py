"""What single steps make of clauses; all that is passed has its right form, made of tuples."""

from eithershown.exchange import exchanged, part_at, with_part
from eithershown.kinds import unlike


def without(clause, literal):
    return [other for other in clause if other != literal]


def instance(clause, substitution):
    if len(substitution) == 0:
        return unlike(clause)
    return unlike([(truth, exchanged(atom, substitution)) for truth, atom in clause])


def with_word(literal, place, word):
    if part_at(literal[1], place) is None:
        return None
    return (literal[0], with_part(literal[1], place, word))


def resolvent(one, other, atom):
    if (True, atom) not in one or (False, atom) not in other:
        return None
    return unlike(without(one, (True, atom)) + without(other, (False, atom)))


def equality_for(clause, left, right):
    """The literal by which left and right are one, the one that has left first ahead of the other; None without."""
    for atom in (("=", left, right), ("=", right, left)):
        if (True, atom) in clause:
            return (True, atom)
    return None


def replacement(one, other, left, right, literal, place):
    equality = equality_for(one, left, right)
    if equality is None or literal not in other or part_at(literal[1], place) != left:
        return None
    rest = without(one, equality) + without(other, literal)
    return unlike(rest + [with_word(literal, place, right)])


def without_same(clause, word):
    if (False, ("=", word, word)) not in clause:
        return None
    return unlike(without(clause, (False, ("=", word, word))))
