"""What is no plan, and what is no thing, lot, table or telling of a plan of three things."""

from tests.kinds import Stubborn, all_but, looped
from toldpushes.plans import Plan
from toldpushes.ratios import Ratio

NO_PLANS = all_but(Plan(0, [], []), Plan(2, [(0, 1)], [])) + [Plan, "Plan(0, [], [])", (0, [], []), [Plan(0, [], [])]]
NO_THINGS = all_but(0, 1) + [3, True, False, Ratio(2), "2", [2], (2,), -1]
NO_LOTS = all_but([], (), [0], (0,)) + [[1, 0], [0, 0], [0, 1, 1], [0, 3], [-1, 0], [0, True], [False, 1], [0, Ratio(1)], "01",
                                        {0, 1}, {0: 1}, range(2), [[0, 1]], [0, "1"], [0, None], (2, 1), [0, 1, 2, 3],
                                        [0, Stubborn()], iter([0, 1])]

NO_TABLES = all_but([], (), [(0,)])
NO_TABLES += [[[1, 2]], [[1], [2]], [[1, 2], [3]], [[1, 2], [3, 4], [5, 6]], [[1, 2, 3], [4, 5, 6]], [[1], []], [[], [1]],
              [[0] * 7] * 7, [[0] * 6] * 7, [[0] * 7] * 6, ((1, 2),), [[True]], [[1, 0], [0, False]], [[1, 0], [0, "1"]],
              [[1, 0], "10"], [[1, 0], None], [[1, 0], {0: 1, 1: 1}], [[1, 0], range(2)], "1", [[[1]]], [[None]],
              [[1, 0], [0, Stubborn()]], [Stubborn()], looped()]

# The plan of which what follows is no table, no pushes, no own and no telling, with a telling.
LINE = Plan(3, [(0, 1), (1, 2)], [(0, 2)])
PUSHES = [[0, 2, 0], [0, 0, Ratio(-1, 2)], [0, 0, 0]]
OWN = [[2, 0, 1], [0, 1, 0], [1, 0, 3]]


def with_number(table, row, place, number):
    """The table with another number at the place."""
    return [[number if (i, j) == (row, place) else there for j, there in enumerate(line)] for i, line in enumerate(table)]


def with_both(table, row, place, number):
    """The table with another number at the place, and at the place turned about."""
    return with_number(with_number(table, row, place, number), place, row, number)


def misshaped(table):
    """What is no table of the size of this one, of three things: other sizes, other rows, other numbers."""
    one, two, three = table
    odd = [True, False, None, "0", "", [0], (0,), {}, Stubborn(), b"", 1j]
    rows = [None, 0, "000", {0: 0, 1: 0, 2: 0}, {0}, range(3), iter([0, 0, 0]), Stubborn(), [], [0, 0], [0, 0, 0, 0], [[0, 0, 0]], looped()]
    found = [with_number(table, row, place, number) for row, place in ((0, 0), (0, 1), (2, 2)) for number in odd]
    found += [[one, two, row] for row in rows] + [[row, two, three] for row in rows]
    found += [[one, two], [one, two, three, three], [one[:2], two[:2]], [[0] * 4] * 4, [[0] * 7] * 7, {0: one, 1: two, 2: three},
              [table], (table,), iter(table), [[0] * 2] * 3, [[0] * 3] * 2, [], (), [[0]], [[1, 0], [0, 1]]]
    return all_but() + found


NO_PUSHES = misshaped(PUSHES) + [with_number(PUSHES, row, place, number) for row in range(3) for place in range(3)
                                 if (row, place) not in LINE.arrows() for number in (1, -1, Ratio(1, 9))]
NO_PUSHES += [OWN, tuple(tuple(row) for row in OWN), (PUSHES, OWN)]
NO_SYMMETRIC = misshaped(OWN) + [with_number(OWN, row, place, number) for row in range(3) for place in range(3)
                                 if row != place for number in (9, -9, Ratio(9, 2))]
NO_SYMMETRIC += [PUSHES, (OWN, OWN), (PUSHES, OWN)]
# A number at unlike things without a tie; a pivot that is 0, or below it.
NO_OWNS = NO_SYMMETRIC + [with_both(OWN, row, place, number) for row, place in ((0, 1), (1, 2)) for number in (Ratio(1, 9), -1)]
NO_OWNS += [with_number(OWN, thing, thing, number) for thing in range(3) for number in (0, -1, Ratio(-1, 2))]
NO_OWNS += [[[1, 0, 1], [0, 1, 0], [1, 0, 1]], with_number(OWN, 2, 2, Ratio(1, 2)), with_number(OWN, 2, 2, Ratio(49, 100)),
            with_both(OWN, 0, 2, 3), [[0] * 3] * 3, [[-1, 0, 0], [0, -1, 0], [0, 0, 1]]]
NO_TELLINGS = all_but() + [[PUSHES, OWN], (PUSHES,), (PUSHES, OWN, OWN), (OWN, PUSHES), (OWN, OWN), ((PUSHES, OWN),),
                           [(PUSHES, OWN)], {0: PUSHES, 1: OWN}, iter((PUSHES, OWN)), PUSHES, OWN, ([], []), ([[0]], [[1]]),
                           ([[0, 2], [0, 0]], [[1, 0], [0, 1]])]
NO_TELLINGS += [(pushes, OWN) for pushes in NO_PUSHES] + [(PUSHES, own) for own in NO_OWNS]
