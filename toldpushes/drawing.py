"""Things, arrows and ties as bare numbers and tuples, and the ways that arrows and ties go."""

from toldpushes.basics import is_count, is_list


def is_thing(size, value):
    """Whether any value is a thing of a plan of this size."""
    return is_count(value) and value < size


def is_pair(size, value):
    """Whether any value is a tuple of two unlike things of a plan of this size."""
    if not isinstance(value, tuple) or len(value) != 2:
        return False
    return all([is_thing(size, thing) for thing in value]) and value[0] != value[1]


def are_pairs(size, value):
    """Whether any value is a list of unlike tuples of two unlike things of a plan of this size."""
    if not is_list(value) or not all([is_pair(size, pair) for pair in value]):
        return False
    return len(set(value)) == len(value)


def are_some(size, value, pairs):
    """Whether any value is a list of unlike tuples that are among the pairs."""
    return are_pairs(size, value) and all([pair in pairs for pair in value])


def are_arrows(size, value):
    """Whether any value is a list of unlike arrows that a plan of this size can have together."""
    return are_pairs(size, value) and len(order_of(size, value)) == size


def are_ties(size, value):
    """Whether any value is a list of unlike ties that a plan of this size can have together."""
    return are_pairs(size, value) and all([low < high for low, high in value])


def are_things(size, value):
    """Whether any value is a list of unlike things of a plan of this size."""
    if not is_list(value) or not all([is_thing(size, thing) for thing in value]):
        return False
    return len(set(value)) == len(value)


def turned(pairs):
    """The pairs, each the other way round."""
    return [(end, start) for start, end in pairs]


def both_ways(ties):
    """Each tie as a pair from either thing to the other one."""
    return ties + turned(ties)


def within(pairs, things):
    """The pairs that go between these things alone."""
    return [(start, end) for start, end in pairs if start in things and end in things]


def choices(values):
    """All lists of some of the values, or none, each in their sequence."""
    found = [[]]
    for value in values:
        found = found + [[*some, value] for some in found]
    return found


def order_of(size, arrows):
    """The least list in which each arrow goes from an earlier to a later thing.

    Things of rings, and what these lead to, are missing in it.
    """
    order, left = [], list(range(size))
    while left:
        pushed = [end for start, end in arrows if start in left]
        free = [thing for thing in left if thing not in pushed]
        if not free:
            return order
        order.append(free[0])
        left.remove(free[0])
    return order


def reached(pairs, start):
    """The things to which one comes from the start along the pairs, one behind another, itself among them."""
    found = [start]
    waiting = [start]
    while waiting:
        thing = waiting.pop()
        fresh = [end for here, end in pairs if here == thing and end not in found]
        found.extend(fresh)
        waiting.extend(fresh)
    return found


def walks(pairs, start):
    """All lists of things from the start on, each next one behind the one before by a pair; pairs make no rings."""
    found, last = [], [[start]]
    while last:
        found.extend(last)
        last = [[*walk, end] for walk in last for here, end in pairs if here == walk[-1]]
    return found
