"""Orders of words by weights and by the order of names."""

from eithershown.errors import BadOrder, BadRows, NotOrdered
from eithershown.kinds import bad_pair, is_integer
from eithershown.words import checked_word


def is_weight(thing):
    return is_integer(thing) and thing >= 1


class Order:
    """Names with their weights; of names that weigh alike the later one is above."""

    def __init__(self, rows):
        index = bad_pair(rows, [], is_weight)
        if index is not None:
            raise BadRows(index)
        self._rows = [(name, weight) for name, weight in rows]
        self.weights = {name: weight for name, weight in rows}
        self.ranks = {row[0]: at for at, row in enumerate(rows)}

    def rows(self):
        return list(self._rows)

    def __eq__(self, other):
        return isinstance(other, Order) and self._rows == other._rows


def check_order(order):
    if not isinstance(order, Order):
        raise BadOrder(order)


def first_unordered(order, word):
    """The first name that the order has not, None if it has all."""
    if isinstance(word, str):
        return None
    if word[0] not in order.ranks:
        return word[0]
    for part in word[1:]:
        name = first_unordered(order, part)
        if name is not None:
            return name
    return None


def checked_ordered(order, word):
    """The word made of tuples, all its names being of the order."""
    told = checked_word(word)
    name = first_unordered(order, told)
    if name is not None:
        raise NotOrdered(name)
    return told


def weigh(order, word, counts):
    """What a word weighs; counts get how often each variable stands in it."""
    if isinstance(word, str):
        counts[word] = counts.get(word, 0) + 1
        return 1
    total = order.weights[word[0]]
    for part in word[1:]:
        total = total + weigh(order, part, counts)
    return total


def is_above(order, one, other):
    """Whether a word, of ordered names, is above another one."""
    mine, others = {}, {}
    weight, other_weight = weigh(order, one, mine), weigh(order, other, others)
    for variable in others:
        if mine.get(variable, 0) < others[variable]:
            return False
    if weight != other_weight or isinstance(one, str) or isinstance(other, str):
        return weight > other_weight
    if one[0] != other[0]:
        return order.ranks[one[0]] > order.ranks[other[0]]
    for left, right in zip(one[1:], other[1:]):
        if left != right:
            return is_above(order, left, right)
    return False


def compare(order, one, other):
    check_order(order)
    left = checked_ordered(order, one)
    right = checked_ordered(order, other)
    if left == right:
        return "same"
    if is_above(order, left, right):
        return "above"
    return "below" if is_above(order, right, left) else "none"
