"""The program as a whole: plans through all of its parts, and what stays when plans are made of others."""

import random
import unittest

from tests.drawn import all_ties, drawings
from tests.kinds import same
from tests.reckoned import of_fractions, of_ratios
from tests.test_few import fewest_by_definition
from tests.test_full import all_plans
from tests.test_known import lots_by, made_enough
from tests.told import bars_of, some_own, some_pushes, some_tellings, table_by_definition
from toldpushes.back import told_back
from toldpushes.bars import bar_of, barred_lots, can_put, greatest_lot, is_plain
from toldpushes.claims import contrary, is_paper_of, is_true, paper_of
from toldpushes.desk import Desk
from toldpushes.few import all_fewest, fewest, fewest_known
from toldpushes.fits import fits, is_misfit, misfit
from toldpushes.full import fillings, full_back
from toldpushes.known import greatest_by, is_enough, told_with, twins_by
from toldpushes.lots import is_barred
from toldpushes.moved import all_ties as tied_telling
from toldpushes.moved import by_order, moved
from toldpushes.plans import Plan
from toldpushes.ratios import Ratio
from toldpushes.readers import read
from toldpushes.roads import is_joined, table_by_roads
from toldpushes.tables import about, determinant, is_above, times
from toldpushes.tellings import cut_telling, is_telling, ones, own_of, scaled, table_of
from toldpushes.texts import written
from toldpushes.twins import apart, are_twins, same_table, twins, twins_of
from toldpushes.ways import ahead, beside, cut, renamed, with_more, without


def told(table):
    return of_ratios(of_fractions(table))


def joins(pairs):
    return ";".join(f"{start}:{end}" for start, end in pairs) or "none"


def rows(table):
    return ";".join(",".join(str(number) for number in row) for row in table) or "none"


def counts(things):
    return ",".join(str(thing) for thing in things) or "-"


class Through(unittest.TestCase):

    def check_tables(self, plan, telling):
        """The table by tables and by roads; its determinant, and own again."""
        table = table_of(plan, telling)
        self.assertEqual(of_fractions(table), table_by_definition(telling))
        if len(plan.arrows()) < 9:
            self.assertEqual(table_by_roads(plan, telling), table)
        self.assertEqual(own_of(plan, telling[0], table), told(telling[1]))
        self.assertEqual([determinant(table), is_above(table), about(table)], [determinant(telling[1]), True, table])
        return table

    def check_plain(self, plan, telling, table):
        """Told back; no twins; other tables fit or have a misfit."""
        self.assertEqual([told_back(plan, table), fits(plan, table), misfit(plan, table), twins(plan)],
                         [(told(telling[0]), told(telling[1])), True, None, None])
        if plan.width > 1:
            other = [list(row) for row in table]
            other[0][1] = other[1][0] = other[0][1] + 1
            shown = misfit(plan, other)
            self.assertEqual([fits(plan, other), told_back(plan, other) is None], [shown is None, shown is not None])
            self.assertTrue(shown is None or is_misfit(plan, other, shown))
        loose = len(all_ties(plan.width)) - len(plan.arrows()) - len(plan.ties())
        if loose < 4:
            for full in fillings(plan):
                self.assertEqual(full_back(full, table), (told(telling[0]), told(telling[1])))
        arrows, ties = can_put(plan)
        for arrow in arrows[:2]:
            self.assertTrue(is_plain(with_more(plan, [arrow], [])))
        for tie in ties[:2]:
            self.assertEqual(told_back(with_more(plan, [], [tie]), table), (told(telling[0]), told(telling[1])))

    def check_barred(self, plan):
        """Twins have one table, so known pushes alone tell them apart."""
        one, two = found = twins(plan)
        self.assertEqual([are_twins(plan, found), same_table(plan, one, two), is_enough(plan, [])], [True, True, False])
        lot = bar_of(plan)
        self.assertEqual([is_barred(plan, lot), are_twins(plan, twins_of(plan, lot)), are_twins(plan, twins_by(plan, [], lot))], [True] * 3)
        unlike = apart(plan, one, two)
        left = [arrow for arrow in plan.arrows() if arrow not in unlike]
        self.assertIs(is_enough(plan, left), False)
        for telling in found:
            known = plan.arrows()
            numbers = [telling[0][start][end] for start, end in known]
            self.assertEqual(told_with(plan, known, numbers, table_of(plan, two)), telling)

    def check_known(self, plan, telling, table, chance):
        known = made_enough(plan, chance)
        numbers = [telling[0][start][end] for start, end in known]
        self.assertEqual(told_with(plan, known, numbers, table), (told(telling[0]), told(telling[1])))
        if len(plan.arrows()) < 5:
            self.assertEqual([all_fewest(plan), fewest(plan)], [fewest_by_definition(plan), len(fewest_known(plan))])
            self.assertIs(fewest(plan) == 0, is_plain(plan))

    def check_moved(self, plan, telling, table):
        order = plan.order()
        along = Plan(plan.width, [(order[i], order[j]) for i, j in all_ties(plan.width)], [])
        tied = Plan(plan.width, [], all_ties(plan.width))
        there = moved(plan, along, telling)
        self.assertEqual([there, moved(plan, tied, telling)], [by_order(plan.width, order, table), tied_telling(plan.width, table)])
        self.assertEqual(moved(along, tied, there), tied_telling(plan.width, table))

    def check_texts(self, plan, telling, table):
        for sort, value in (("plan", plan), ("telling", (told(telling[0]), told(telling[1]))), ("table", table), ("arrows", plan.arrows()),
                            ("lot", plan.order()[:1])):
            self.assertEqual(read(written(sort, value)), (sort, value))

    def check_claims(self, plan, table):
        claims = [("plain", plan), ("enough", plan, []), ("joined", plan, 0, plan.width - 1)] if plan.width else [("plain", plan)]
        claims += [("fits", plan, table)] if is_plain(plan) else []
        claims += [("few", plan, 1)] if len(plan.arrows()) < 5 else []
        for claim in claims:
            true = claim if is_true(claim) else contrary(claim)
            self.assertEqual([is_true(true), is_true(contrary(true)), paper_of(contrary(true))], [True, False, None])
            paper = paper_of(true)
            self.assertTrue(paper is None or is_paper_of(true, paper))

    def check_desk(self, plan, telling, table):
        """The same on a desk."""
        desk = Desk()
        desk.do_all(f"plan p {plan.width} {joins(plan.arrows())} {joins(plan.ties())}", f"pair t {rows(telling[0])} {rows(telling[1])}",
                    "tableof s p t", "claim k plain p")
        self.assertEqual([desk["p"], desk["t"], desk["s"]], [plan, (told(telling[0]), told(telling[1])), table])
        self.assertEqual(desk("state k"), "true" if is_plain(plan) else "false")
        self.assertEqual(desk.do_all("telling p t", "order p", "show s"), ["yes", counts(plan.order()), rows(table)])
        for thing in range(plan.width):
            self.assertEqual(desk(f"greatest p {thing}"), counts(greatest_lot(plan, thing)))
            self.assertEqual(desk(f"joined p 0 {thing}"), "yes" if is_joined(plan, 0, thing) else "no")
        if is_plain(plan):
            self.assertEqual(desk.do_all("claim m fits p s", "back u p s", "same u t"), ["m true", "-", "yes"])
            desk.attach("m", desk["u"])
            self.assertIs(desk.fits("m"), True)
        else:
            desk.attach("k", twins(plan))
            self.assertIs(desk.fits("k"), True)
        self.assertEqual(Desk.again(desk.lines())("states"), desk("states"))

    def test_drawn_plans(self):
        chance, plain, barred = random.Random(201), 0, 0
        for plan, telling in some_tellings(202):
            table = self.check_tables(plan, telling)
            self.assertEqual([barred_lots(plan), is_plain(plan), is_enough(plan, [])], [bars_of(plan), not bars_of(plan), not bars_of(plan)])
            if is_plain(plan):
                self.check_plain(plan, telling, table)
                plain += 1
            else:
                self.check_barred(plan)
                barred += 1
            self.check_known(plan, telling, table, chance)
            self.check_moved(plan, telling, table)
            self.check_texts(plan, telling, table)
            self.check_claims(plan, table)
            self.check_desk(plan, telling, table)
        self.assertGreater(min(plain, barred), 20)

    def test_all_plans_of_up_to_three_things(self):
        chance = random.Random(203)
        for size in range(4):
            for plan in all_plans(size):
                telling = some_pushes(plan, chance), some_own(plan, chance)
                table = self.check_tables(plan, telling)
                # Told or barred: from its table each telling is told back, or there are two with one table.
                if is_plain(plan):
                    self.check_plain(plan, telling, table)
                else:
                    self.check_barred(plan)
                self.check_claims(plan, table)
                self.check_known(plan, telling, table, chance)


class MadeOfOthers(unittest.TestCase):

    def test_renamed(self):
        chance = random.Random(204)
        for plan, telling in some_tellings(205):
            names = chance.sample(range(plan.width), plan.width)
            other = renamed(plan, names)
            back = [names.index(thing) for thing in range(plan.width)]
            self.assertEqual(renamed(other, back), plan)
            turned = tuple([[told(table)[i][j] for j in back] for i in back] for table in telling)
            self.assertIs(is_telling(other, turned), True)
            table = table_of(plan, telling)
            self.assertEqual(table_of(other, turned), [[table[i][j] for j in back] for i in back])
            self.assertEqual(barred_lots(other), sorted(sorted(names[thing] for thing in lot) for lot in barred_lots(plan)))
            if is_plain(plan):
                self.assertEqual(told_back(other, table_of(other, turned)), turned)
            if len(plan.arrows()) < 5:
                self.assertEqual(all_fewest(other), sorted(sorted((names[i], names[j]) for i, j in known) for known in all_fewest(plan)))

    def test_scaled(self):
        chance = random.Random(206)
        for plan, telling in some_tellings(207):
            numbers = [chance.choice([1, -1, 2, Ratio(1, 3), Ratio(-5, 2)]) for _ in range(plan.width)]
            other, table = scaled(plan, telling, numbers), table_of(plan, telling)
            self.assertIs(is_telling(plan, other), True)
            line = [[number if i == j else 0 for j in range(plan.width)] for i, number in enumerate(numbers)]
            self.assertEqual(table_of(plan, other), times(times(line, table), line))
            if is_plain(plan):
                self.assertEqual(told_back(plan, table_of(plan, other)), other)
                self.assertEqual(fits(plan, table_of(plan, other)), True)

    def test_beside(self):
        plans = [Plan(*drawing) for drawing in drawings() if drawing[0] < 4]
        chance = random.Random(208)
        for _ in range(40):
            one, two = chance.sample(plans, 2)
            both, wide = beside(one, two), one.width
            self.assertEqual(barred_lots(both), sorted(barred_lots(one) + [[wide + thing for thing in lot] for lot in barred_lots(two)]))
            self.assertEqual([cut(both, list(range(wide))), cut(both, list(range(wide, both.width)))], [one, two])
            self.assertFalse(any(is_joined(both, i, j) for i in range(wide) for j in range(wide, both.width)))
            if len(both.arrows()) < 6:
                self.assertEqual(fewest(both), fewest(one) + fewest(two))
            self.assertEqual([greatest_by(both, one.arrows(), thing) for thing in range(wide)], [[thing] for thing in range(wide)])

    def test_cut(self):
        for plan, telling in some_tellings(209):
            for thing in range(plan.width):
                lot = sorted(ahead(plan, thing) + [thing])
                part, piece = cut(plan, lot), cut_telling(plan, telling, lot)
                table = table_of(plan, telling)
                self.assertEqual(table_of(part, piece), [[table[i][j] for j in lot] for i in lot])
                self.assertEqual(barred_lots(part), sorted([lot.index(one) for one in bar] for bar in barred_lots(plan) if set(bar) <= set(lot)))
                if is_plain(plan):
                    self.assertEqual(told_back(part, table_of(part, piece)), piece)

    def test_less_is_no_more_barred(self):
        chance = random.Random(210)
        for drawing in drawings():
            plan = Plan(*drawing)
            arrows, ties = [[one for one in part if chance.random() < 0.3] for part in (plan.arrows(), plan.ties())]
            small = without(plan, arrows, ties)
            self.assertLessEqual({tuple(lot) for lot in barred_lots(small)}, {tuple(lot) for lot in barred_lots(plan)})
            # A telling of the smaller plan is one of the plan.
            self.assertIs(is_telling(plan, ones(small)), True)
            self.assertTrue(same(sorted(lots_by(plan, [])), barred_lots(plan)))


if __name__ == "__main__":
    unittest.main()
