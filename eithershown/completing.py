"""Equations completed: rules by an order that do with words what the equations say."""

from eithershown.errors import BadEquations, BadNumber
from eithershown.kinds import bad_index, frozen, is_number
from eithershown.meetings import meetings_of, told_pair
from eithershown.orders import check_order, is_above
from eithershown.proofs import Proofs
from eithershown.rewriting import first_step, is_ordered_equation, lasting
from eithershown.writing import written


def pair_text(pair):
    return (written(pair[0]), written(pair[1]))


class Completing:
    """Pairs that wait, each with the number of its origin, and rules: triples of both words and such a number."""

    def __init__(self, order, equations):
        self.order = order
        self.proofs = Proofs(equations)
        self.queue = {}
        self.rules = []
        self.bare = None
        for index, pair in enumerate(equations):
            self.wait(pair, ("given", index))

    def wait(self, pair, origin):
        told = told_pair(pair)
        if pair_text(told) not in self.queue:
            self.queue[pair_text(told)] = (told[0], told[1], self.proofs.take(origin))

    def lasting(self, word):
        """A word's last form by the rules that stand, with the steps, by triples for rules."""
        last, steps = lasting([rule[:2] for rule in self.rules], word)
        return last, [(self.rules[index], place, words) for index, place, words in steps]

    def take(self):
        """One round: the least pair that waits makes a rule, or it goes, or it is bare."""
        first, second, number = self.queue.pop(min(list(self.queue)))
        one, one_steps = self.lasting(first)
        other, other_steps = self.lasting(second)
        if one == other:
            return
        is_turned = is_above(self.order, other, one)
        if not is_turned and not is_above(self.order, one, other):
            self.bare = told_pair((one, other))
            return
        left, right = told_pair((other, one) if is_turned else (one, other))
        origin = ("last", number, one_steps, other_steps, is_turned)
        self.add_rule((left, right, self.proofs.take(origin)))

    def add_rule(self, rule):
        """Puts a rule to the others: elder ones whose first word it changes wait again."""
        again = [elder for elder in self.rules if first_step([rule[:2]], elder[0]) is not None]
        self.rules = [elder for elder in self.rules if elder not in again] + [rule]
        for first, second, number in again:
            self.queue.setdefault(pair_text((first, second)), (first, second, number))
        self.rules = [self.with_last(elder) for elder in self.rules]
        rule = self.rules[-1]
        for other in self.rules[:-1]:
            self.meet(rule, other, False)
            self.meet(other, rule, False)
        self.meet(rule, rule, True)

    def with_last(self, rule):
        """The rule with its second word made last."""
        last, steps = self.lasting(rule[1])
        if len(steps) == 0:
            return rule
        return (rule[0], last, self.proofs.take(("last", rule[2], [], steps, False)))

    def meet(self, one, other, is_itself):
        for place, pair in meetings_of(one[:2], other[:2], is_itself):
            self.wait(pair, ("met", one, other, place))

    def told_rules(self):
        """The rules with their numbers, ascending."""
        return sorted(self.rules, key=pair_text)


def completed(order, equations, rounds):
    """What is there behind so many rounds, or when none waits, or one is bare."""
    check_order(order)
    index = bad_index(equations, lambda thing: is_ordered_equation(order, thing))
    if index is not None:
        raise BadEquations(index)
    if not is_number(rounds):
        raise BadNumber(rounds)
    state = Completing(order, [frozen(pair) for pair in equations])
    for _ in range(rounds):
        if len(state.queue) == 0 or state.bare is not None:
            break
        state.take()
    return state


def complete(order, equations, rounds):
    state = completed(order, equations, rounds)
    if state.bare is not None:
        return ("bare", state.bare)
    rules = [rule[:2] for rule in state.told_rules()]
    if len(state.queue) == 0:
        return ("complete", rules)
    return ("open", rules, [state.queue[text][:2] for text in sorted(state.queue)])


def chains_for(order, equations, rounds):
    state = completed(order, equations, rounds)
    if state.bare is not None:
        return []
    return [state.proofs.rows(rule[2]) for rule in state.told_rules()]
