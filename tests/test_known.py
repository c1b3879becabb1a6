"""Known pushes: what is barred by what is not known, what is enough, what is told beside them, and two tellings."""

import random
import unittest
from itertools import combinations

from tests.drawn import closed, drawings
from tests.kinds import ALL_KINDS, Stubborn, all_but, check_fresh, check_parameters, check_refused, check_stopped, same
from tests.reckoned import check_told, of_fractions, of_ratios, solved_plainly
from tests.told import (bars_of, equations_by_definition, has_head, is_above_nought, is_barring_lot, lots_of, some_symmetric,
                        some_tellings, table_by_definition)
from tests.wrong import LINE, NO_LOTS, NO_PLANS, NO_SYMMETRIC, NO_THINGS, OWN
from toldpushes.errors import (InvalidKnown, InvalidLot, InvalidNumbers, InvalidPlan, InvalidTable, InvalidThing, NotBarred,
                               NotEnough)
from toldpushes.back import told_back
from toldpushes.bars import greatest_lot
from toldpushes.known import barred_by, greatest_by, is_enough, is_known, told_with, twins_by
from toldpushes.plans import Plan
from toldpushes.ratios import Ratio
from toldpushes.tellings import is_telling
from toldpushes.twins import apart, are_twins

BOW = Plan(2, [(0, 1)], [(0, 1)])
THREE = Plan(3, [(0, 1), (1, 2)], [(0, 1), (0, 2)])

# What is no list of unlike arrows of LINE.
NO_KNOWN = all_but([], (), [(0, 1)]) + [[(1, 0)], [(0, 2)], [(0, 1), (0, 1)], ((0, 1), (1, 2), (0, 1)), [(0, 1), [1, 2]], [[0, 1], (1, 2)],
                                        [(0, 1), (1, 3)], [(False, 1)], [(0, True)], [(0, Ratio(1))], [(0, 1), "12"], [(0, 1), None], (0, 1),
                                        [((0, 1),)], {(0, 1)}, {(0, 1): 2}, iter([(0, 1)]), "[(0, 1)]", [(0, 1), Stubborn()], [(0, Stubborn())]]
# What is no list of two NUMBERS.
NO_NUMBERS = all_but([1, 0]) + [[1], [1, 2, 3], (Ratio(1),), [1, True], [False, 0], [1, None], [1, "2"], [1, [2]], [1, Stubborn()], "12",
                                {1: 2, 3: 4}, {1, 2}, range(2), iter([1, 2]), [[1, 2]], (1, object)]


def is_barred_by(plan, known, lot):
    """Whether the lot is barred, and each of its other things leads to the head, within it, by a last arrow not known."""
    if not is_barring_lot(plan, lot):
        return False
    [top] = [thing for thing in lot if has_head(plan, lot, thing)]
    arrows = [arrow for arrow in plan.arrows() if set(arrow) <= set(lot)]
    doors = [start for start, end in arrows if end == top and (start, end) not in known]
    return all(any((other, door) in closed(plan.width, arrows) for door in doors) for other in lot if other != top)


def lots_by(plan, known):
    """All lots that are barred by what is not known, by a look at all lots."""
    return [lot for lot in lots_of(plan.width) if is_barred_by(plan, known, lot)]


def greatest_of(plan, known, thing):
    """The greatest lot with this head that is barred by what is not known; the thing alone without one."""
    found = [lot for lot in lots_by(plan, known) if has_head(plan, lot, thing)] or [[thing]]
    greatest = max(found, key=len)
    assert all(set(lot) <= set(greatest) for lot in found)
    return greatest


def subsets(values):
    return [list(some) for many in range(len(values) + 1) for some in combinations(values, many)]


def small_plans(most):
    """Drawn plans with at most so many arrows."""
    return [Plan(*drawing) for drawing in drawings() if len(drawing[1]) <= most]


def made_enough(plan, chance):
    """Known arrows in any sequence that are enough, of few or many arrows."""
    known = chance.sample(plan.arrows(), chance.randint(0, len(plan.arrows())) // 2)
    left = [arrow for arrow in plan.arrows() if arrow not in known]
    chance.shuffle(left)
    while lots_by(plan, known):
        known.append(left.pop())
    chance.shuffle(known)
    return known


def told_plainly(plan, given, table):
    """The pushes, in Fractions, that fulfil all equations beside those given; None without such, or with a table not above nought."""
    if not is_above_nought(of_fractions(table)):
        return None
    pushes = [[0] * plan.width for _ in range(plan.width)]
    for (start, end), number in given.items():
        pushes[start][end] = number
    for thing in plan.order():
        starts = [start for start in range(plan.width) if (start, thing) in plan.arrows()]
        rows, goals = equations_by_definition(plan, pushes, table, thing)
        worths = [of_fractions([[given.get((start, thing), 0)]])[0][0] for start in starts]
        goals = [goal - sum(number * worth for number, worth in zip(row, worths)) for row, goal in zip(rows, goals)]
        places = [place for place, start in enumerate(starts) if (start, thing) not in given]
        found = solved_plainly([[row[place] for place in places] for row in rows], goals) if rows else []
        if found is None:
            return None
        assert len(found) == len(places)
        for place, number in zip(places, found):
            pushes[starts[place]][thing] = Ratio(number.numerator, number.denominator)
    return of_fractions(pushes)


class IsKnown(unittest.TestCase):

    def test_values_of_all_kinds(self):
        for value in NO_KNOWN:
            self.assertIs(is_known(LINE, value), False)
        for value in ALL_KINDS:
            self.assertIs(is_known(Plan(0, [], []), value), same(value, []) or same(value, ()))
            self.assertIs(is_known(value=value, plan=BOW), any(same(value, one) for one in ([], (), [(0, 1)])))

    def test_lists_of_arrows(self):
        for plan in small_plans(5):
            for known in subsets(plan.arrows()):
                self.assertIs(is_known(plan, known), True)
                self.assertIs(is_known(plan, tuple(known[::-1])), True)
                self.assertIs(is_known(plan, known + known[:1]), not known)
                self.assertIs(is_known(plan, [(end, start) for start, end in known]), not known)
                self.assertIs(is_known(plan, [list(arrow) for arrow in known]), not known)
            for tie in plan.ties():
                self.assertIs(is_known(plan, [tie]), tie in plan.arrows())
        # An arrow of another plan.
        self.assertEqual([is_known(LINE, [(0, 2)]), is_known(THREE, [(0, 1), (1, 2)]), is_known(BOW, [(1, 2)])], [False, True, False])


class BarredBy(unittest.TestCase):

    def check_all(self, plan, known):
        lots = lots_by(plan, known)
        for lot in lots_of(plan.width):
            self.assertIs(barred_by(plan, known, lot), lot in lots)
        for thing in range(plan.width):
            told = greatest_by(plan, known, thing)
            self.assertIs(type(told), list)
            self.assertEqual(told, greatest_of(plan, known, thing))
        self.assertIs(is_enough(plan, known), not lots)
        return len(lots)

    def test_all_known_arrows_of_drawn_plans(self):
        some, none = 0, 0
        for plan in small_plans(4):
            for known in subsets(plan.arrows()):
                many = self.check_all(plan, known)
                some, none = some + (many > 0), none + (many == 0 and len(known) > 0)
        self.assertGreater(min(some, none), 20)

    def test_some_known_arrows_of_all_drawn_plans(self):
        chance, some = random.Random(111), 0
        for drawing in drawings():
            plan = Plan(*drawing)
            if len(plan.arrows()) > 4:
                some += self.check_all(plan, chance.sample(plan.arrows(), chance.randint(1, 4)))
        self.assertGreater(some, 50)

    def test_none_and_all_known(self):
        for drawing in drawings():
            plan = Plan(*drawing)
            self.assertEqual([lot for lot in lots_of(plan.width) if barred_by(plan, [], lot)], sorted(bars_of(plan), key=lots_of(plan.width).index))
            self.assertEqual([greatest_by(plan, [], thing) for thing in range(plan.width)],
                             [greatest_lot(plan, thing) for thing in range(plan.width)])
            self.assertIs(is_enough(plan, plan.arrows()), True)
            self.assertEqual([greatest_by(plan, plan.arrows(), thing) for thing in range(plan.width)], [[thing] for thing in range(plan.width)])
            self.assertFalse(any(barred_by(plan, plan.arrows(), lot) for lot in lots_of(plan.width)))

    def test_arrows_ahead_of_the_last_one_may_be_known(self):
        self.assertEqual([barred_by(THREE, [(0, 1)], [0, 1, 2]), barred_by(THREE, [(1, 2)], [0, 1, 2]), barred_by(THREE, [(1, 2)], [0, 1])],
                         [True, False, True])
        # A thing with a known arrow to the head may lead to it otherwise.
        plan = Plan(3, [(0, 1), (0, 2), (1, 2)], [(0, 2), (1, 2)])
        self.assertEqual([barred_by(plan, [(0, 2)], [0, 1, 2]), barred_by(plan, [(0, 2)], [0, 2]), barred_by(plan, [(1, 2)], [0, 1, 2])],
                         [True, False, False])
        self.assertEqual([greatest_by(plan, [(0, 2)], 2), greatest_by(plan, [(1, 2)], 2), greatest_by(plan, [(0, 2), (1, 2)], 2)],
                         [[0, 1, 2], [0, 2], [2]])

    def test_enough_stays_so_with_more(self):
        chance = random.Random(112)
        for drawing in drawings():
            plan = Plan(*drawing)
            known = made_enough(plan, chance)
            for arrow in plan.arrows():
                if arrow not in known:
                    known = known + [arrow]
                    self.assertIs(is_enough(plan, known), True)

    def test_by_names_and_tuples(self):
        self.assertIs(barred_by(lot=(0, 1, 2), known=((0, 1),), plan=THREE), True)
        self.assertEqual(greatest_by(thing=2, known=((0, 1),), plan=THREE), [0, 1, 2])
        self.assertIs(is_enough(known=((1, 2), (0, 1)), plan=THREE), True)
        self.assertIs(is_enough(Plan(0, [], []), ()), True)


class ToldWith(unittest.TestCase):

    def check_told_with(self, plan, known, telling):
        pushes = telling[0]
        numbers = [pushes[start][end] for start, end in known]
        told = told_with(plan, known, numbers, of_ratios(table_by_definition(telling)))
        self.assertIs(type(told), tuple)
        check_told(self, told[0], of_fractions(telling[0]))
        check_told(self, told[1], of_fractions(telling[1]))

    def test_tellings(self):
        chance, some, of_barred = random.Random(113), 0, 0
        for plan, telling in some_tellings(114, 2):
            known = made_enough(plan, chance)
            self.check_told_with(plan, known, telling)
            self.check_told_with(plan, tuple(known[::-1]), telling)
            some, of_barred = some + (len(known) > 1), of_barred + (len(bars_of(plan)) > 0)
        self.assertGreater(min(some, of_barred), 40)

    def test_all_known(self):
        chance = random.Random(115)
        for plan, telling in some_tellings(116):
            known = plan.arrows()
            chance.shuffle(known)
            self.check_told_with(plan, known, telling)

    def test_plain_plans_without_known_arrows(self):
        for plan, telling in some_tellings(117):
            if not bars_of(plan):
                table = of_ratios(table_by_definition(telling))
                self.assertEqual(told_with(plan, [], [], table), told_back(plan, table))
                if plan.width:
                    table[0][0] = table[0][0] - 3
                self.assertEqual(told_with(plan, (), (), table), told_back(plan, table))

    def check_any(self, plan, known, numbers, table):
        """The telling is told exactly if the equations have a solution; whether there was one."""
        told = told_with(plan, known, numbers, table)
        wanted = told_plainly(plan, dict(zip(known, numbers)), table)
        if wanted is None:
            self.assertIsNone(told)
            return False
        self.assertEqual(of_fractions(told[0]), wanted)
        self.assertIs(is_telling(plan, told), True)
        self.assertEqual(table_by_definition(told), of_fractions(table))
        return True

    def test_other_tables_and_other_pushes(self):
        chance, some, none = random.Random(118), 0, 0
        for plan, telling in some_tellings(119):
            if not plan.width:
                continue
            known = made_enough(plan, chance)
            numbers = [telling[0][start][end] for start, end in known]
            table = of_ratios(table_by_definition(telling))
            row, place = chance.randrange(plan.width), chance.randrange(plan.width)
            other = [list(line) for line in table]
            other[row][place] = other[place][row] = table[row][place] + chance.choice([1, -1, Ratio(1, 3), 50])
            moved = [number + chance.choice([0, 1, Ratio(-1, 2)]) for number in numbers]
            for found in (self.check_any(plan, known, numbers, other), self.check_any(plan, known, moved, table),
                          self.check_any(plan, known, numbers, some_symmetric(plan.width, chance))):
                some, none = some + found, none + (not found)
        self.assertGreater(min(some, none), 40)

    def test_none(self):
        # With the push 2 what is left of 1 would go with itself by 0, or by less.
        self.assertIsNone(told_with(BOW, [(0, 1)], [2], [[1, 3], [3, 9]]))
        self.assertIsNone(told_with(BOW, [(0, 1)], [2], [[0, 0], [0, 1]]))
        self.assertIsNone(told_with(Plan(2, [(0, 1)], []), [(0, 1)], [2], [[1, 3], [3, 12]]))
        self.assertIsNone(told_with(Plan(2, [], []), [], [], [[1, 1], [1, 2]]))
        # 0 pushes 1 by its table alone: any other number is of no telling.
        step = Plan(2, [(0, 1)], [])
        self.assertEqual([told_with(step, [(0, 1)], [number], [[1, 3], [3, 12]]) is None for number in (3, Ratio(3), 0, -3, Ratio(7, 2))],
                         [False, False, True, True, True])

    def test_any_known_push_of_a_bow(self):
        for number in (0, 5, -5, Ratio(1, 3), Ratio(-7, 2)):
            pushes, own = told_with(BOW, [(0, 1)], [number], [[1, 3], [3, 12]])
            check_told(self, pushes, of_fractions([[0, number], [0, 0]]))
            self.assertEqual(own, [[Ratio(1), 3 - number * Ratio(1)], [3 - number * Ratio(1), 12 - 6 * number + Ratio(1) * number * number]])

    def test_numbers_go_with_arrows_in_their_sequence(self):
        plan = Plan(3, [(0, 1), (0, 2), (1, 2)], [(0, 1), (0, 2)])
        telling = ([[0, 2, 3], [0, 0, Ratio(1, 2)], [0, 0, 0]], [[5, 1, 1], [1, 4, 0], [1, 0, 6]])
        table = of_ratios(table_by_definition(telling))
        known, numbers = [(0, 1), (0, 2), (1, 2)], [2, 3, Ratio(1, 2)]
        for order in ([0, 1, 2], [2, 0, 1], [1, 2, 0], [2, 1, 0]):
            told = told_with(plan, [known[at] for at in order], [numbers[at] for at in order], table)
            self.assertEqual([of_fractions(part) for part in told], [of_fractions(part) for part in telling])

    def test_not_enough(self):
        for plan, known in ((BOW, []), (THREE, [(0, 1)]), (THREE, [(1, 2)]), (THREE, ())):
            size = plan.width
            for table in ([[int(i == j) for j in range(size)] for i in range(size)], [[-int(i == j) for j in range(size)] for i in range(size)]):
                check_stopped(self, NotEnough, told_with, plan, known, [0] * len(known), table)


class TwinsBy(unittest.TestCase):

    def check_twins_by(self, plan, known, lot):
        told = twins_by(plan, known, lot)
        self.assertIs(are_twins(plan, told), True)
        self.assertEqual([type(told), len(told)] + [type(telling) for telling in told], [tuple, 2, tuple, tuple])
        first, second = told
        for telling in told:
            self.assertIs(is_telling(plan, telling), True)
            for table in telling:
                check_told(self, table, of_fractions(table))
                self.assertTrue(all(number.is_whole for row in table for number in row))
        self.assertEqual(table_by_definition(first), table_by_definition(second))
        [top] = [thing for thing in lot if has_head(plan, lot, thing)]
        unlike = apart(plan, first, second)
        self.assertTrue(unlike)
        self.assertTrue(all(arrow not in known and arrow[0] in lot and arrow[1] == top for arrow in unlike))
        # Own is unlike at the head alone: with itself, and with things tied to it.
        places = [(i, j) for i in range(plan.width) for j in range(plan.width) if first[1][i][j] != second[1][i][j]]
        tied = [(i, j) for low, high in plan.ties() for i, j in ((low, high), (high, low))]
        self.assertTrue(all(top in place and (place == (top, top) or place in tied) for place in places))
        self.assertEqual(twins_by(lot=tuple(lot), known=tuple(known), plan=plan), told)

    def test_all_known_arrows_of_drawn_plans(self):
        many, beside = 0, 0
        for plan in small_plans(5):
            for known in subsets(plan.arrows())[::3]:
                for lot in lots_by(plan, known)[::2]:
                    self.check_twins_by(plan, known, lot)
                    many, beside = many + 1, beside + (len(known) > 1)
        self.assertGreater(many, 150)
        self.assertGreater(beside, 60)

    def test_many_arrows(self):
        chance, many = random.Random(121), 0
        for drawing in drawings():
            plan = Plan(*drawing)
            if len(plan.arrows()) > 5:
                known = chance.sample(plan.arrows(), 4)
                for lot in lots_by(plan, known)[::3]:
                    self.check_twins_by(plan, known, lot)
                    many += 1
        self.assertGreater(many, 30)

    def test_a_thing_with_a_known_arrow_to_the_head(self):
        plan = Plan(3, [(0, 1), (0, 2), (1, 2)], [(0, 2), (1, 2)])
        self.check_twins_by(plan, [(0, 2)], [0, 1, 2])
        self.check_twins_by(plan, [(0, 2), (0, 1)], [0, 1, 2])
        self.check_twins_by(plan, [(1, 2)], [0, 2])

    def test_not_barred(self):
        for plan in small_plans(3):
            for known in subsets(plan.arrows()):
                barred = lots_by(plan, known)
                for lot in lots_of(plan.width):
                    if lot not in barred:
                        check_stopped(self, NotBarred, twins_by, plan, known, lot)
        # The lot is barred, but not by what is not known.
        check_stopped(self, NotBarred, twins_by, BOW, [(0, 1)], [0, 1])


class Refused(unittest.TestCase):

    def test_parameters(self):
        plan, known, lot = (InvalidPlan, NO_PLANS), (InvalidKnown, NO_KNOWN), (InvalidLot, NO_LOTS)
        check_parameters(self, barred_by, {"plan": LINE, "known": [(0, 1)], "lot": [0, 1]}, {"plan": plan, "known": known, "lot": lot})
        check_parameters(self, twins_by, {"plan": LINE, "known": [(0, 1)], "lot": [0, 1]}, {"plan": plan, "known": known, "lot": lot})
        check_parameters(self, greatest_by, {"plan": LINE, "known": [(0, 1)], "thing": 2},
                         {"plan": plan, "known": known, "thing": (InvalidThing, NO_THINGS)})
        check_parameters(self, is_enough, {"plan": LINE, "known": [(0, 1)]}, {"plan": plan, "known": known})
        # Also where no thing is there to be a head.
        for value in all_but([], ()) + NO_KNOWN:
            check_refused(self, InvalidKnown, value, is_enough, Plan(0, [], []), value)
            check_refused(self, InvalidKnown, value, told_with, Plan(0, [], []), value, "later", "later")
        for value in NO_PLANS:
            check_refused(self, InvalidPlan, value, is_known, value, [])
            check_refused(self, InvalidPlan, value, is_known, value="later", plan=value)

    def test_told_with(self):
        # With a tie more what is known is not enough: what is wrong with the parameters comes ahead of that.
        for plan in (LINE, Plan(3, [(0, 1), (1, 2), (0, 2)], [(0, 2)])):
            known = [value for value in NO_KNOWN if not is_known(plan, value)]
            check_parameters(self, told_with, {"plan": plan, "known": [(1, 2), (0, 1)], "numbers": [1, Ratio(1, 2)], "table": OWN},
                             {"plan": (InvalidPlan, NO_PLANS), "known": (InvalidKnown, known), "numbers": (InvalidNumbers, NO_NUMBERS),
                              "table": (InvalidTable, NO_SYMMETRIC)})
        check_stopped(self, NotEnough, told_with, Plan(3, [(0, 1), (1, 2), (0, 2)], [(0, 2)]), [(1, 2), (0, 1)], [1, 2], OWN)
        for numbers in ([1], [1, 2, 3], [], None):
            check_refused(self, InvalidNumbers, numbers, told_with, LINE, [(0, 1), (1, 2)], numbers, OWN)
        check_refused(self, InvalidNumbers, [0], told_with, LINE, [], [0], OWN)

    def test_fresh(self):
        telling = ([[0, 2, 0], [0, 0, Ratio(3)], [0, 0, 0]], [[5, 1, 1], [1, 4, 0], [1, 0, 6]])
        table = of_ratios(table_by_definition(telling))
        check_fresh(self, told_with, THREE, [(1, 2), (0, 1)], [Ratio(3), Ratio(2)], table)
        check_fresh(self, greatest_by, THREE, [(0, 1)], 2)
        check_fresh(self, greatest_by, THREE, [(0, 1)], 1)
        check_fresh(self, twins_by, THREE, [(0, 1)], [0, 1, 2])
        check_fresh(self, is_known, THREE, [(0, 1)])
        check_fresh(self, is_enough, THREE, [(0, 1)])
        check_fresh(self, barred_by, THREE, [(0, 1)], [0, 1, 2])


if __name__ == "__main__":
    unittest.main()
