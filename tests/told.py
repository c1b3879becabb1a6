"""Plans with tellings of them, and what these have to be, straight by the definitions."""

import random

from tests.drawn import all_ties, closed, drawings
from tests.reckoned import multiplied, of_fractions, turned
from toldpushes.plans import Plan
from toldpushes.ratios import Ratio

SOME_PUSHES = [0, 1, 2, -1, -3, Ratio(1, 2), Ratio(-3, 4), Ratio(0), Ratio(5, 3)]


def is_above_nought(table):
    """Whether all pivots of a symmetric table of Fractions are above 0: each, over the one before, is left at its place."""
    while table:
        if table[0][0] <= 0:
            return False
        table = [[number - row[0] * there / table[0][0] for number, there in zip(row[1:], table[0][1:])] for row in table[1:]]
    return True


def some_pushes(plan, chance):
    found = [[0] * plan.width for _ in range(plan.width)]
    for start, end in plan.arrows():
        found[start][end] = chance.choice(SOME_PUSHES)
    return found


def some_own(plan, chance):
    """An own table of the plan: the numbers on its line grow until it is above nought."""
    found = [[chance.choice([0, Ratio(0)]) for _ in range(plan.width)] for _ in range(plan.width)]
    for thing in range(plan.width):
        found[thing][thing] = chance.choice([1, 2, Ratio(1, 2), Ratio(7, 3)])
    for low, high in plan.ties():
        found[low][high] = found[high][low] = chance.choice([0, 1, -1, 2, Ratio(1, 2), Ratio(-2, 3)])
    while not is_above_nought(of_fractions(found)):
        for thing in range(plan.width):
            found[thing][thing] = found[thing][thing] + chance.choice([0, 1, Ratio(1, 2)])
    return found


def some_tellings(seed, each=1):
    """Plans of all sizes with tellings of them."""
    chance, found = random.Random(seed), []
    for drawing in drawings():
        plan = Plan(*drawing)
        found += [(plan, (some_pushes(plan, chance), some_own(plan, chance))) for _ in range(each)]
    return found


def some_symmetric(size, chance):
    """Any symmetric table of this size, above nought or not."""
    found = [[0] * size for _ in range(size)]
    for row in range(size):
        for place in range(row + 1):
            found[row][place] = found[place][row] = chance.choice([0, 1, -2, Ratio(1, 2), Ratio(-7, 3), chance.randint(-20, 20)])
    return found


def idle_less(pushes):
    """The idle table less pushes, in Fractions."""
    return [[int(i == j) - number for j, number in enumerate(row)] for i, row in enumerate(of_fractions(pushes))]


def through(pushes):
    """What undoes the idle table less pushes: as arrows make no rings, the idle table and all powers of pushes."""
    plain = of_fractions(pushes)
    power = found = [[int(i == j) for j in range(len(plain))] for i in range(len(plain))]
    for _ in plain:
        power = multiplied(power, plain)
        found = [[a + b for a, b in zip(row, line)] for row, line in zip(found, power)]
    return found


def table_by_definition(telling):
    """The table of a telling, in Fractions."""
    pushes, own = telling
    return multiplied(multiplied(turned(through(pushes)), of_fractions(own)), through(pushes))


def lots_of(size):
    """All lots of a plan of this size."""
    return [[thing for thing in range(size) if bits >> thing & 1] for bits in range(2 ** size)]


def has_head(plan, lot, thing):
    """Whether each other thing of the lot leads to the thing by arrows within the lot."""
    inside = closed(plan.width, [arrow for arrow in plan.arrows() if set(arrow) <= set(lot)])
    return thing in lot and all((other, thing) in inside for other in lot)


def is_hanging(plan, lot):
    """Whether from each thing of the lot one comes to each other one by ties within the lot."""
    ties = [tie for tie in plan.ties() if set(tie) <= set(lot)]
    inside = closed(plan.width, ties + [(high, low) for low, high in ties])
    return all((start, end) in inside for start in lot for end in lot)


def is_barring_lot(plan, lot):
    return len(lot) > 1 and any(has_head(plan, lot, thing) for thing in lot) and is_hanging(plan, lot)


def bars_of(plan):
    """All barred lots, by a look at all lots."""
    return sorted(lot for lot in lots_of(plan.width) if is_barring_lot(plan, lot))


def plain_ones(seed):
    """Plain plans of all sizes: drawn ones, less ties until no lot is barred, in some of them less arrows."""
    chance, found = random.Random(seed), []
    for size, arrows, ties in drawings():
        arrows, ties = list(arrows), list(ties)
        while bars_of(Plan(size, arrows, ties)):
            part = chance.choice([arrows, ties, ties])
            if part:
                part.remove(chance.choice(part))
        found.append(Plan(size, arrows, ties))
    return found


def dense_plain_ones(seed, many=24):
    """Plain plans of 4 to 6 things with as few loose pairs as can be: what was taken from them barred them."""
    chance, found = random.Random(seed), []
    while len(found) < many:
        size, arrows, ties = chance.choice([4, 5, 5, 6]), [], []
        order = chance.sample(range(size), size)
        for low, high in all_ties(size):
            if chance.random() < 0.5:
                arrows.append(tuple(sorted((low, high), key=order.index)))
            else:
                ties.append((low, high))
        taken = 0
        while bars_of(Plan(size, arrows, ties)):
            part = chance.choice([arrows, ties])
            part.remove(chance.choice(part))
            taken += 1
        if taken:
            found.append(Plan(size, arrows, ties))
    return found


def equations_by_definition(plan, pushes, table, thing):
    """The equations of the thing, in Fractions: rows and goals."""
    pushes, table, order = of_fractions(pushes), of_fractions(table), plan.order()

    def left(k, j):
        return table[k][j] - sum(pushes[p][k] * table[p][j] for p, end in plan.arrows() if end == k)

    others = [k for k in range(plan.width) if order.index(k) < order.index(thing)
              and not {(k, thing), (thing, k)} & set(plan.ties())]
    starts = [p for p in range(plan.width) if (p, thing) in plan.arrows()]
    return [[left(k, p) for p in starts] for k in others], [left(k, thing) for k in others]
