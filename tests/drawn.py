"""Plans by their bare arrows and ties, for the tests of plans and of what is made of them."""

import random
from itertools import combinations, permutations, product


def all_arrows(size):
    return list(permutations(range(size), 2))


def all_ties(size):
    return list(combinations(range(size), 2))


def closed(size, pairs):
    """All (start, end) such that one comes from start to end along the pairs, or is there already."""
    found = {(thing, thing) for thing in range(size)} | set(pairs)
    for middle, start, end in product(range(size), repeat=3):
        if (start, middle) in found and (middle, end) in found:
            found.add((start, end))
    return found


def has_ring(size, arrows):
    return any((end, start) in closed(size, arrows) for start, end in arrows)


def drawings():
    """Sizes with arrows and ties that a plan can have: all up to 2 things, many of 3 to 6."""
    chance, found = random.Random(21), [(0, [], []), (1, [], [])]
    for arrows in ([], [(0, 1)], [(1, 0)]):
        found += [(2, arrows, []), (2, arrows, [(0, 1)])]
    for size in range(3, 7):
        for turn in range(25):
            order = chance.sample(range(size), size)
            along = [(order[i], order[j]) for i, j in all_ties(size)]
            most = (0, len(along))[turn % 2] if turn < 2 else chance.randint(0, len(along))
            arrows = chance.sample(along, most)
            ties = chance.sample(all_ties(size), (len(along), 0)[turn % 2] if turn < 4 else chance.randint(0, len(along) // 2))
            found.append((size, arrows, ties))
    return found
