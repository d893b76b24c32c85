"""The names of functions and predicates, with how many places each has."""

from eithershown.errors import BadFunctions, BadNames, BadPredicates
from eithershown.kinds import bad_pair, is_arity


class Names:
    """Functions and predicates with their arities, which never change."""

    def __init__(self, functions, predicates):
        index = bad_pair(functions, [], is_arity)
        if index is not None:
            raise BadFunctions(index)
        index = bad_pair(predicates, [pair[0] for pair in functions], is_arity)
        if index is not None:
            raise BadPredicates(index)
        self._functions = sorted([(name, arity) for name, arity in functions])
        self._predicates = sorted([(name, arity) for name, arity in predicates])

    def functions(self):
        return list(self._functions)

    def predicates(self):
        return list(self._predicates)

    def __eq__(self, other):
        return (isinstance(other, Names) and self._functions == other._functions
                and self._predicates == other._predicates)


def check_names(names):
    if not isinstance(names, Names):
        raise BadNames(names)
