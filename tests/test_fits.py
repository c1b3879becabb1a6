"""Whether tables fit plain plans, and what shows that they do not."""

import random
import unittest

from tests.kinds import ALL_KINDS, Stubborn, check_fresh, check_parameters, check_refused, check_stopped, looped
from tests.reckoned import by_places, of_fractions, of_ratios, solved_plainly
from tests.test_back import plain_tellings
from tests.told import bars_of, equations_by_definition, some_symmetric, some_tellings, table_by_definition
from tests.wrong import LINE, NO_PLANS, NO_SYMMETRIC, OWN, PUSHES
from toldpushes.errors import InvalidPlan, InvalidTable, NotPlain
from toldpushes.fits import fits, is_misfit, misfit
from toldpushes.plans import Plan
from toldpushes.ratios import Ratio
from toldpushes.tellings import table_of

BOW = Plan(2, [(0, 1)], [(0, 1)])
LONE = Plan(2, [], [])
# Here thing 2 is amiss, and it has two equations and one push.
AMISS = Plan(3, [(0, 2)], [(0, 1)])
NO_TUPLES = ALL_KINDS + [("pivot",), ("rows",), ("pivot", 0, 0), ("rows", 0), (), ("Pivot", 0), ("pivots", 0), (0, "pivot"),
                         (Stubborn(), 0), ("pivot", Stubborn()), ("rows", Stubborn(), [0]), ("rows", 1, Stubborn()), ("rows", 1, None),
                         ("rows", 1, "1"), ("rows", 1, {0: 1}), ("rows", 1, [None]), ("rows", 1, [Stubborn()]), ("rows", 1, looped()),
                         (b"pivot", 0), (["pivot"], 0), ("rows", 1, [[1]]), ("rows", 1, {1}), ("rows", 1, 1), ("rows", 1, iter([1]))]


def first_amiss(plan, table):
    """What is amiss first, by the definitions: ("pivot", place), or ("rows", thing, rows, goals); None if nothing is."""
    plain = of_fractions(table)
    for place in range(plan.width):
        if by_places([row[:place + 1] for row in plain[:place + 1]]) <= 0:
            return "pivot", place
    pushes = [[0] * plan.width for _ in range(plan.width)]
    for thing in plan.order():
        rows, goals = equations_by_definition(plan, pushes, table, thing)
        found = solved_plainly(rows, goals)
        if found is None:
            return "rows", thing, rows, goals
        for (start, _), push in zip([arrow for arrow in plan.arrows() if arrow[1] == thing], found):
            pushes[start][thing] = Ratio(push.numerator, push.denominator)
    return None


def moved(table, chance):
    """The symmetric table with one number moved, and its like."""
    row, place = chance.randrange(len(table)), chance.randrange(len(table))
    found = [list(line) for line in table]
    found[row][place] = found[place][row] = found[row][place] + chance.choice([1, -1, Ratio(1, 5), 40, -40])
    return found


def tables():
    """Plain plans with symmetric tables: of tellings, of those moved once or twice, and any."""
    chance, found = random.Random(61), []
    for plan, telling in plain_tellings(62):
        table = of_ratios(table_by_definition(telling))
        found.append((plan, table))
        found.append((plan, some_symmetric(plan.width, chance)))
        if plan.width:
            once = moved(table, chance)
            found += [(plan, once), (plan, moved(once, chance))]
    return found


class Fits(unittest.TestCase):

    def test_tables(self):
        kinds = {}
        for plan, table in tables():
            amiss, told = first_amiss(plan, table), misfit(plan, table)
            self.assertIs(fits(plan, table), amiss is None)
            kinds[amiss and amiss[0]] = kinds.get(amiss and amiss[0], 0) + 1
            if amiss is None:
                self.assertIsNone(told)
                continue
            self.assertIs(type(told), tuple)
            self.assertEqual(told[:2], amiss[:2])
            self.assertEqual(len(told), len(amiss) - (amiss[0] == "rows"))
            self.assertIs(is_misfit(plan, table, told), True)
            if amiss[0] == "rows":
                self.check_numbers(told[2], *amiss[2:])
        self.assertGreater(min(kinds[None], kinds["pivot"], kinds["rows"]), 50)

    def check_numbers(self, numbers, rows, goals):
        self.assertIs(type(numbers), list)
        self.assertEqual([type(number) for number in numbers], [Ratio] * len(goals))
        plain = of_fractions([numbers])[0]
        for column in zip(*rows):
            self.assertEqual(sum(number * worth for number, worth in zip(plain, column)), 0)
        self.assertNotEqual(sum(number * goal for number, goal in zip(plain, goals)), 0)

    def test_first_pivot(self):
        for table, place in ([[[0, 0], [0, 0]], 0], [[[-1, 0], [0, 1]], 0], [[[1, 2], [2, 1]], 1], [[[1, 1], [1, 1]], 1],
                             [[[-1, 0], [0, -1]], 0]):
            self.assertEqual(misfit(LONE, table), ("pivot", place))
            self.assertIs(fits(LONE, table), False)
            for other in range(-1, 3):
                self.assertIs(is_misfit(LONE, table, ("pivot", other)), other == place)
        self.assertEqual(misfit(LINE, [[1, 0, 0], [0, 1, 1], [0, 1, 1]]), ("pivot", 2))

    def test_first_thing_along_the_order(self):
        plan = Plan(3, [(2, 0)], [])
        # Of 1, 2, 0: 1 and 2 go together, and nothing pushes 2; what is amiss at 0 comes later.
        self.assertEqual(misfit(plan, [[9, 1, 1], [1, 9, 1], [1, 1, 9]])[:2], ("rows", 2))
        told = misfit(plan, [[9, 1, 1], [1, 9, 0], [1, 0, 9]])
        self.assertEqual([told[:2], len(told[2])], [("rows", 0), 2])
        self.assertIs(fits(plan, [[9, 0, 1], [0, 9, 0], [1, 0, 9]]), True)

    def test_small_plans(self):
        self.assertEqual([fits(Plan(0, [], []), []), misfit(Plan(0, [], []), ()), is_misfit(Plan(0, [], []), [], ("pivot", 0))],
                         [True, None, False])
        one = Plan(1, [], [])
        self.assertEqual([fits(one, [[1]]), fits(one, [[0]]), misfit(table=[[-1]], plan=one), fits(table=[[Ratio(1, 2)]], plan=one)],
                         [True, False, ("pivot", 0), True])


class IsMisfit(unittest.TestCase):

    def test_rows(self):
        table = [[4, 1, 1], [1, 4, 1], [1, 1, 4]]
        word, thing, numbers = misfit(AMISS, table)
        self.assertEqual((word, thing, len(numbers)), ("rows", 2, 2))
        for by in (1, -1, 7, Ratio(-2, 3)):
            more = [number * by for number in numbers]
            self.assertIs(is_misfit(AMISS, table, ("rows", 2, more)), True)
            self.assertIs(is_misfit(value=("rows", 2, tuple(more)), table=table, plan=AMISS), True)
        # How what is left of 0 and of 1 goes with 0: 4 and 1.
        self.assertIs(is_misfit(AMISS, table, ("rows", 2, [1, -4])), True)
        for numbers in ([0, 0], [1, 0], [0, 1], [1, 4], [1], [1, -4, 0], [], [1, "1"], [True, -4], [1, True], [-1, True], "1-", None, [1, None]):
            self.assertIs(is_misfit(AMISS, table, ("rows", 2, numbers)), False)
        for value in (["rows", 2, [1, -4]], ("rows", 0, [1, -4]), ("rows", 1, [1, -4]), ("rows", 3, [1, -4]), ("rows", Ratio(2), [1, -4]),
                      ("rows", "2", [1, -4]), ("rows", 2, [1, -4], 0), ("rows", 2), ("pivot", 2), ("pivot", 2, [1, -4]), ("row", 2, [1, -4]),
                      (("rows", 2, [1, -4]),), ("rows", [2], [1, -4])):
            self.assertIs(is_misfit(AMISS, table, value), False)

    def test_true_for_a_thing_or_a_place(self):
        table = [[1, 1], [1, 2]]
        self.assertIs(is_misfit(LONE, table, ("rows", 1, [1])), True)
        self.assertIs(is_misfit(LONE, table, ("rows", True, [1])), False)
        self.assertIs(is_misfit(LONE, table, ("rows", 1, [True])), False)
        self.assertIs(is_misfit(LONE, [[1, 1], [1, 1]], ("pivot", True)), False)
        self.assertIs(is_misfit(LONE, [[1, 1], [1, 1]], ("pivot", Ratio(1))), False)
        self.assertIs(is_misfit(LONE, [[0, 0], [0, 1]], ("pivot", False)), False)
        self.assertIs(is_misfit(LONE, [[0, 0], [0, 1]], ["pivot", 0]), False)

    def test_any_numbers(self):
        chance, right, wrong = random.Random(63), 0, 0
        for plan, table in tables()[::3]:
            amiss = first_amiss(plan, table)
            for thing in range(plan.width):
                for place in (thing, -1):
                    self.assertIs(is_misfit(plan, table, ("pivot", place)), amiss == ("pivot", place))
            if amiss and amiss[0] == "rows":
                _, thing, rows, goals = amiss
                base = misfit(plan, table)[2]
                for turn in range(6):
                    numbers = [chance.choice([0, 1, -1, 2, Ratio(1, 2)]) for _ in goals] if turn % 2 else list(base)
                    if turn == 2:
                        at = chance.randrange(len(goals))
                        numbers[at] = numbers[at] + 1
                    plain = of_fractions([numbers])[0]
                    wanted = (all(sum(a * b for a, b in zip(plain, column)) == 0 for column in zip(*rows))
                              and sum(a * b for a, b in zip(plain, goals)) != 0)
                    self.assertIs(is_misfit(plan, table, ("rows", thing, numbers)), wanted)
                    right, wrong = right + wanted, wrong + (not wanted)
                    for value in (("rows", thing, [*numbers, 0]), ("rows", thing, numbers[1:]), ["rows", thing, numbers],
                                  ("rows", (thing + 1) % plan.width, numbers), ("pivot", thing)):
                        self.assertIs(is_misfit(plan, table, value), False)
        self.assertGreater(min(right, wrong), 45)

    def test_values_of_all_kinds(self):
        for plan, table in ((LONE, [[1, 1], [1, 2]]), (LONE, [[1, 1], [1, 1]]), (LONE, [[1, 0], [0, 1]]), (AMISS, [[4, 1, 1], [1, 4, 1], [1, 1, 4]]),
                            (Plan(0, [], []), [])):
            for value in NO_TUPLES:
                self.assertIs(is_misfit(plan, table, value), False)

    def test_none_if_it_fits(self):
        for plan, telling in plain_tellings(64)[::5]:
            table = of_ratios(table_by_definition(telling))
            for value in [("pivot", place) for place in range(6)] + [("rows", thing, [1] * many) for thing in range(6) for many in range(4)]:
                self.assertIs(is_misfit(plan, table, value), False)


class Refused(unittest.TestCase):

    def test_not_plain(self):
        barred = [(plan, [[int(i == j) for j in range(plan.width)] for i in range(plan.width)]) for plan, _ in some_tellings(65) if bars_of(plan)]
        for plan, table in barred + [(BOW, [[1, 2], [2, 1]])]:
            check_stopped(self, NotPlain, fits, plan, table)
            check_stopped(self, NotPlain, misfit, plan, table)
            check_stopped(self, NotPlain, is_misfit, plan, table, ("pivot", 1))

    def test_refused(self):
        for plan in (LINE, Plan(3, [(0, 1)], [(0, 1)])):
            for call in (fits, misfit):
                check_parameters(self, call, {"plan": plan, "table": OWN}, {"plan": (InvalidPlan, NO_PLANS), "table": (InvalidTable, NO_SYMMETRIC)})
            for value in NO_PLANS:
                check_refused(self, InvalidPlan, value, is_misfit, value, "later", "later")
                check_refused(self, InvalidPlan, value, is_misfit, value="later", table="later", plan=value)
            for table in NO_SYMMETRIC:
                check_refused(self, InvalidTable, table, is_misfit, plan, table, ("pivot", 0))
                check_refused(self, InvalidTable, table, is_misfit, value=("pivot", 0), table=table, plan=plan)

    def test_fresh(self):
        for table in (table_of(LINE, (PUSHES, OWN)), OWN, of_ratios([[1, 1, 0], [1, 1, 0], [0, 0, 1]])):
            check_fresh(self, fits, LINE, table)
            check_fresh(self, misfit, LINE, table)
        check_fresh(self, misfit, AMISS, [[4, 1, 1], [1, 4, 1], [1, 1, 4]])
        check_fresh(self, is_misfit, AMISS, [[4, 1, 1], [1, 4, 1], [1, 1, 4]], ("rows", 2, [1, -4]))


if __name__ == "__main__":
    unittest.main()
