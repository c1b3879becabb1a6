"""Tellings: what is one, their tables, ones, what is left, other measures, closed lots."""

import random
import unittest

from tests.drawn import drawings
from tests.kinds import ALL_KINDS, all_but, check_fresh, check_parameters, check_refused, check_stopped
from tests.reckoned import by_places, check_told, multiplied, of_fractions, of_ratios, turned
from tests.told import (idle_less, is_above_nought, lots_of, some_pushes, some_symmetric, some_tellings, table_by_definition)
from tests.wrong import (LINE, NO_LOTS, NO_OWNS, NO_PLANS, NO_PUSHES, NO_SYMMETRIC, NO_TELLINGS, OWN, PUSHES, with_both,
                         with_number)
from toldpushes.errors import (InvalidLot, InvalidNumbers, InvalidPlan, InvalidPushes, InvalidTable, InvalidTelling, NotClosed)
from toldpushes.plans import Plan
from toldpushes.ratios import Ratio
from toldpushes.tellings import cut_telling, is_telling, lefts, ones, own_of, scaled, table_of
from toldpushes.ways import cut

NO_NUMBERS = all_but() + [[1, 2], [1, 2, 3, 4], [1, 2, 0], [0, 1, 2], [1, Ratio(0), 2], [1, 2, True], [False, 1, 2], [1, "2", 3],
                          [1, 2, None], {0: 1, 1: 1, 2: 1}, {1, 2, 3}, "123", range(1, 4), iter([1, 2, 3]), [[1, 2, 3]], [1, [2], 3]]


def is_right(plan, pushes, own):
    """Whether two tables of the plan's size are a telling of it."""
    things, ties = range(plan.width), plan.ties()
    plain = of_fractions(own)
    return (all(of_fractions(pushes)[i][j] == 0 for i in things for j in things if (i, j) not in plan.arrows())
            and all(plain[i][j] == plain[j][i] for i in things for j in things) and is_above_nought(plain)
            and all(plain[i][j] == 0 for i in things for j in things if i != j and not {(i, j), (j, i)} & set(ties)))


class IsTelling(unittest.TestCase):

    def test_tellings(self):
        for plan, (pushes, own) in some_tellings(1):
            for value in ((pushes, own), (tuple(pushes), [tuple(row) for row in own]),
                          (of_ratios(of_fractions(pushes)), of_ratios(of_fractions(own)))):
                self.assertIs(is_telling(plan, value), True)
            self.assertIs(is_telling(value=(pushes, own), plan=plan), True)
            self.assertIs(is_telling(plan, [pushes, own]), False)
        self.assertIs(is_telling(Plan(0, [], []), ([], ())), True)
        self.assertIs(is_telling(LINE, (PUSHES, OWN)), True)

    def test_each_place(self):
        for plan, (pushes, own) in some_tellings(2)[::4]:
            for row in range(plan.width):
                for place in range(plan.width):
                    for number in (0, 1, -1, Ratio(1, 3)):
                        for moved in ((with_number(pushes, row, place, number), own), (pushes, with_number(own, row, place, number)),
                                      (pushes, with_both(own, row, place, number))):
                            self.assertIs(is_telling(plan, moved), is_right(plan, *moved))

    def test_other_plans(self):
        found = some_tellings(3)
        for plan, telling in found:
            for other, _ in found:
                wanted = other.width == plan.width and is_right(other, *telling)
                self.assertIs(is_telling(other, telling), wanted)

    def test_no_tellings(self):
        for value in NO_TELLINGS:
            self.assertIs(is_telling(LINE, value), False)
        for value in ALL_KINDS:
            for plan in (Plan(0, [], []), Plan(1, [], []), Plan(2, [(0, 1)], [(0, 1)])):
                self.assertIs(is_telling(plan, value), False)
        for value in (([0], [1]), ((), ()), ([[]], [[]]), ([[0]], [[True]]), ([[False]], [[1]]), ([[0]], [[0]]), ([[0]], [[-1]]),
                      ([[1]], [[1]])):
            self.assertIs(is_telling(Plan(1, [], []), value), False)

    def test_bow(self):
        bow = Plan(2, [(0, 1)], [(0, 1)])
        self.assertIs(is_telling(bow, ([[0, 5], [0, 0]], ((1, -1), (-1, 2)))), True)
        self.assertIs(is_telling(bow, ([[0, 0], [5, 0]], ((1, -1), (-1, 2)))), False)
        self.assertIs(is_telling(bow, ([[0, 5], [0, 0]], ((1, -1), (-1, 1)))), False)


class Tables(unittest.TestCase):

    def test_table_of(self):
        for plan, telling in some_tellings(4, each=2):
            wanted = table_by_definition(telling)
            check_told(self, table_of(plan, telling), wanted)
            self.assertEqual(wanted, turned(wanted))
            self.assertTrue(is_above_nought(wanted))
            self.assertTrue(all(by_places([row[:many] for row in wanted[:many]]) > 0 for many in range(plan.width + 1)))
            self.assertEqual(by_places(wanted), by_places(of_fractions(telling[1])))
        check_told(self, table_of(telling=([], []), plan=Plan(0, [], [])), [])
        check_told(self, table_of(Plan(1, [], []), ([[0]], [[Ratio(1, 3)]])), of_fractions([[Ratio(1, 3)]]))

    def test_same_worth(self):
        for plan, (pushes, own) in some_tellings(5):
            told = of_ratios(of_fractions(pushes)), tuple(tuple(row) for row in of_ratios(of_fractions(own)))
            self.assertEqual(table_of(plan, told), table_of(plan, (pushes, own)))

    def test_ones(self):
        for size, arrows, ties in drawings():
            plan = Plan(size, arrows, ties)
            told = ones(plan)
            self.assertIs(type(told), tuple)
            pushes, own = told
            check_told(self, pushes, [[int((i, j) in arrows) for j in range(size)] for i in range(size)])
            check_told(self, own, [[size if i == j else int((min(i, j), max(i, j)) in ties) for j in range(size)] for i in range(size)])
            self.assertIs(is_telling(plan, told), True)
        self.assertEqual(ones(plan=Plan(0, [], [])), ([], []))
        self.assertEqual(ones(Plan(2, [(1, 0)], [(0, 1)])), (of_ratios([[0, 0], [1, 0]]), of_ratios([[2, 1], [1, 2]])))

    def test_lefts_and_own_of(self):
        chance = random.Random(6)
        for drawing in drawings():
            plan = Plan(*drawing)
            for _ in range(3):
                pushes, table = some_pushes(plan, chance), some_symmetric(plan.width, chance)
                less, plain = idle_less(pushes), of_fractions(table)
                check_told(self, lefts(plan, pushes, table), multiplied(turned(less), plain))
                check_told(self, own_of(plan, pushes, table), multiplied(multiplied(turned(less), plain), less))
                check_told(self, lefts(table=tuple(table), pushes=tuple(pushes), plan=plan), multiplied(turned(less), plain))
                check_told(self, own_of(table=table, pushes=pushes, plan=plan), multiplied(multiplied(turned(less), plain), less))

    def test_own_of_tellings(self):
        for plan, (pushes, own) in some_tellings(7):
            table = table_of(plan, (pushes, own))
            check_told(self, own_of(plan, pushes, table), of_fractions(own))


class OtherMeasures(unittest.TestCase):

    def test_scaled(self):
        chance = random.Random(8)
        for plan, telling in some_tellings(9):
            numbers = [chance.choice([1, -1, 2, Ratio(1, 2), Ratio(-7, 3), -5]) for _ in range(plan.width)]
            plain, things = of_fractions([numbers])[0], range(plan.width)
            pushes, own = of_fractions(telling[0]), of_fractions(telling[1])
            told = scaled(plan, telling, numbers)
            self.assertIs(type(told), tuple)
            check_told(self, told[0], [[pushes[i][j] * plain[j] / plain[i] for j in things] for i in things])
            check_told(self, told[1], [[own[i][j] * plain[i] * plain[j] for j in things] for i in things])
            self.assertIs(is_telling(plan, told), True)
            table = of_fractions(table_of(plan, telling))
            check_told(self, table_of(plan, told), [[table[i][j] * plain[i] * plain[j] for j in things] for i in things])
            self.assertEqual(scaled(numbers=tuple(numbers), telling=telling, plan=plan), told)
        self.assertEqual(scaled(Plan(0, [], []), ([], []), ()), ([], []))

    def test_numbers(self):
        told = scaled(LINE, (PUSHES, OWN), [-1, Ratio(1, 2), 3])
        self.assertEqual(told[0], [[Ratio(0), Ratio(-1), Ratio(0)], [Ratio(0), Ratio(0), Ratio(-3)], [Ratio(0)] * 3])
        self.assertEqual(told[1], [[Ratio(2), Ratio(0), Ratio(-3)], [Ratio(0), Ratio(1, 4), Ratio(0)], [Ratio(-3), Ratio(0), Ratio(27)]])


class ClosedLots(unittest.TestCase):

    def test_cut_telling(self):
        many = 0
        for plan, telling in some_tellings(10):
            pushes, own, table = of_fractions(telling[0]), of_fractions(telling[1]), table_by_definition(telling)
            for lot in lots_of(plan.width):
                if all(start in lot for start, end in plan.arrows() if end in lot):
                    told = cut_telling(plan, telling, lot)
                    self.assertIs(type(told), tuple)
                    check_told(self, told[0], [[pushes[i][j] for j in lot] for i in lot])
                    check_told(self, told[1], [[own[i][j] for j in lot] for i in lot])
                    part = cut(plan, lot)
                    self.assertIs(is_telling(part, told), True)
                    check_told(self, table_of(part, told), [[table[i][j] for j in lot] for i in lot])
                    self.assertEqual(cut_telling(lot=tuple(lot), telling=telling, plan=plan), told)
                    many += 0 < len(lot) < plan.width
                else:
                    check_stopped(self, NotClosed, cut_telling, plan, telling, lot)
        self.assertGreater(many, 100)

    def test_empty_and_whole(self):
        self.assertEqual(cut_telling(LINE, (PUSHES, OWN), []), ([], []))
        self.assertEqual(cut_telling(LINE, (PUSHES, OWN), (0, 1, 2)), (of_ratios(of_fractions(PUSHES)), of_ratios(of_fractions(OWN))))
        bent = Plan(3, [(2, 0), (1, 2)], [])
        self.assertEqual(cut_telling(bent, ([[0, 0, 0], [0, 0, 5], [7, 0, 0]], [[1, 0, 0], [0, 2, 0], [0, 0, 3]]), [1, 2]),
                         (of_ratios([[0, 5], [0, 0]]), of_ratios([[2, 0], [0, 3]])))
        for lot in ([0], [0, 1], [0, 2], [2]):
            check_stopped(self, NotClosed, cut_telling, bent, ones(bent), lot)


class Refused(unittest.TestCase):

    def test_plans(self):
        for value in NO_PLANS:
            check_refused(self, InvalidPlan, value, is_telling, value, (PUSHES, OWN))
            check_refused(self, InvalidPlan, value, is_telling, value="later", plan=value)
        check_parameters(self, ones, {"plan": LINE}, {"plan": (InvalidPlan, NO_PLANS)})

    def test_tellings(self):
        valid, wrong = {"plan": LINE, "telling": (PUSHES, OWN)}, {"plan": (InvalidPlan, NO_PLANS), "telling": (InvalidTelling, NO_TELLINGS)}
        check_parameters(self, table_of, valid, wrong)
        check_parameters(self, scaled, {**valid, "numbers": [1, 2, 3]}, {**wrong, "numbers": (InvalidNumbers, NO_NUMBERS)})
        # Not closed: so what is wrong with the parameters comes ahead of that.
        check_parameters(self, cut_telling, {**valid, "lot": [1]}, {**wrong, "lot": (InvalidLot, NO_LOTS)})
        check_stopped(self, NotClosed, cut_telling, LINE, (PUSHES, OWN), [1])

    def test_pushes_and_tables(self):
        for call in (lefts, own_of):
            check_parameters(self, call, {"plan": LINE, "pushes": PUSHES, "table": OWN},
                             {"plan": (InvalidPlan, NO_PLANS), "pushes": (InvalidPushes, NO_PUSHES), "table": (InvalidTable, NO_SYMMETRIC)})

    def test_tables_that_are_no_own_do(self):
        for table in NO_OWNS[len(NO_SYMMETRIC):]:
            self.assertEqual(len(own_of(LINE, PUSHES, table)), 3)

    def test_numbers_of_no_things(self):
        check_refused(self, InvalidNumbers, [1], scaled, Plan(0, [], []), ([], []), [1])


class Fresh(unittest.TestCase):

    def test_lists(self):
        pushes, own = of_ratios(of_fractions(PUSHES)), of_ratios(of_fractions(OWN))
        for telling in ((pushes, own), (PUSHES, OWN)):
            check_fresh(self, is_telling, LINE, telling)
            check_fresh(self, table_of, LINE, telling)
            check_fresh(self, scaled, LINE, telling, [1, 1, 1])
            check_fresh(self, scaled, LINE, telling, [2, Ratio(-1, 2), Ratio(1)])
            check_fresh(self, cut_telling, LINE, telling, [0, 1, 2])
            check_fresh(self, lefts, LINE, *telling)
            check_fresh(self, own_of, LINE, *telling)
        check_fresh(self, lefts, LINE, of_ratios([[0] * 3] * 3), own)
        check_fresh(self, own_of, LINE, of_ratios([[0] * 3] * 3), own)
        check_fresh(self, ones, LINE)
        check_fresh(self, table_of, Plan(2, [], []), (of_ratios([[0, 0], [0, 0]]), of_ratios([[1, 0], [0, 1]])))


if __name__ == "__main__":
    unittest.main()
