"""Which objects are integers, names, variables and lists of things."""

LETTERS = "abcdefghijklmnopqrstuvwxyz"
CAPITALS = "ABCDEFGHIJKLMNOPQRSTUVWXYZ"
FIGURES = "0123456789"
NAME_SIGNS = "abcdefghijklmnopqrstuvwxyz0123456789"
LONGEST = 8
MOST_PLACES = 6
# The words that are no names, as the keys of a dict, so that they are found quickly.
KEPT = {
    "all": True, "some": True, "not": True, "and": True, "or": True, "then": True, "iff": True, "false": True,
    "axiom": True, "goal": True, "function": True, "predicate": True, "things": True, "is": True, "by": True,
    "on": True, "of": True, "put": True, "for": True, "in": True, "at": True, "into": True, "given": True,
    "instance": True, "resolve": True, "replace": True, "same": True, "alike": True, "either": True, "turned": True,
    "chained": True, "parts": True, "holds": True, "class": True, "fact": True, "cell": True, "clash": True,
    "size": True, "follows": True, "fails": True, "open": True, "watch": True, "hold": True,
}


def is_integer(thing):
    return isinstance(thing, int) and not isinstance(thing, bool)


def is_number(thing):
    return is_integer(thing) and thing >= 0


def is_arity(thing):
    return is_number(thing) and thing <= MOST_PLACES


def is_list(thing):
    """Lists may be passed for tuples, tuples for lists: both count as lists."""
    return isinstance(thing, (list, tuple))


def is_pair(thing):
    return is_list(thing) and len(thing) == 2


def is_spelled(thing):
    """Whether it is a string of at most eight signs, all of them letters and figures of the plain kind."""
    return isinstance(thing, str) and len(thing) <= LONGEST and thing.isalnum() and thing.isascii()


def is_name(thing):
    return is_spelled(thing) and thing.islower() and thing[0] in LETTERS and thing not in KEPT


def is_variable(thing):
    return is_spelled(thing) and thing[0] in CAPITALS and (len(thing) == 1 or thing[1:].isdigit())


def bad_index(things, is_right):
    """The index of the first thing that is not right, 0 for no list, None if all are right."""
    if not is_list(things):
        return 0
    for index, thing in enumerate(things):
        if not is_right(thing):
            return index
    return None


def bad_pair(things, barred, is_right):
    """The index of the first thing that is no pair of a name, not barred, that did not stand before, and of a right
    thing; 0 for no list, None if all are such pairs."""
    if not is_list(things):
        return 0
    stood = list(barred)
    for index, thing in enumerate(things):
        if not is_pair(thing) or not is_name(thing[0]) or thing[0] in stood or not is_right(thing[1]):
            return index
        stood.append(thing[0])
    return None


def has_lists(thing):
    """Whether a list stands in it, at whatever depth of tuples."""
    work = [thing]
    while work:
        part = work.pop()
        if isinstance(part, list):
            return True
        if isinstance(part, tuple):
            work.extend(part)
    return False


def frozen(thing):
    """The thing with tuples for lists at every depth; by a list of what is begun, as calls may not go so deep."""
    if not has_lists(thing):
        return thing
    begun = [(thing, [])]
    while True:
        whole, done = begun[-1]
        if len(done) == len(whole):
            begun.pop()
            if not begun:
                return tuple(done)
            begun[-1][1].append(tuple(done))
        elif has_lists(whole[len(done)]):
            begun.append((whole[len(done)], []))
        else:
            done.append(whole[len(done)])


def unlike(things):
    """The things in their order, like ones once."""
    told = []
    for thing in things:
        if thing not in told:
            told.append(thing)
    return told
