"""A desk: each deed and each question with its answer, each refusal, states, limits, and what is kept."""

import unittest

from tests.drawn import all_ties
from tests.kinds import ALL_KINDS, Stubborn, check_refused, lists_in, same
from toldpushes import errors
from toldpushes.desk import Desk
from toldpushes.plans import Plan
from toldpushes.ratios import Ratio
from toldpushes.tellings import ones, table_of

LINE = Plan(3, [(0, 1), (1, 2)], [(0, 2)])
TABLE = [[1, 2, 7], [2, 5, 17], [7, 17, 61]]
FULL_WORDS = [f"{kind}{at}" for kind in "abc" for at in range(4)]
AHEAD = ["plan p 3 0:1;1:2 0:2", "pair t 0,2,0;0,0,3;0,0,0 1,0,1;0,1,0;1,0,4", "tableof s p t", "lot l 0,2", "plan bow 2 0:1 0:1"]
SEVEN = "0:1;0:2;0:3;0:4;0:5;1:2;1:3"


def ratios(table):
    return [[number if isinstance(number, Ratio) else Ratio(number) for number in row] for row in table]


def begun(*more):
    desk = Desk()
    desk.do_all(*AHEAD, *more)
    return desk


def held(desk):
    """All that can be seen of a desk."""
    return [desk.names, desk.labels, len(desk), desk.lines(), [desk(f"show {name}") for name in desk.names], desk("states"),
            [desk(f"claimed {label}") for label in desk.labels], [desk.fits(label) for label in desk.labels]]


class Case(unittest.TestCase):

    def check_fails(self, desk, command, error, **parts):
        """The command raises just this error with just these parts, and nothing is changed by it."""
        before = held(desk)
        for call in (desk.do, desk):
            with self.assertRaises(error) as caught:
                call(command)
            self.assertIs(type(caught.exception), error, command)
            found = vars(caught.exception)
            self.assertEqual(list(found), list(parts), command)
            self.assertTrue(all(same(found[name], parts[name]) for name in parts), (command, found, parts))
        self.assertEqual(held(desk), before)

    def check_claim_fails(self, desk, command, value):
        """The command raises InvalidClaim with this tuple, and nothing is changed by it."""
        before = held(desk)
        with self.assertRaises(errors.InvalidClaim) as caught:
            desk(command)
        told = caught.exception.value
        self.assertEqual((type(told), told), (tuple, value))
        self.assertTrue(all(same(one, other) for one, other in zip(told, value) if not isinstance(one, Plan)))
        self.assertEqual(held(desk), before)

    def check_answers(self, desk, rows):
        """Commands with their answers, one behind another."""
        for command, answer in rows:
            told = desk.do(command)
            self.assertEqual((type(told), told), (str, answer), command)


class Deeds(Case):

    def check_kept(self, desk, command, value):
        """The deed keeps this, new each time it is told, and its answer is that no state changed."""
        name = command.split(" ")[1]
        many = len(desk)
        self.assertIs(name in desk, False)
        self.assertEqual(desk.do(command), "-")
        self.assertTrue(same(desk[name], value) or desk[name] == value, (command, desk[name]))
        self.assertIs(type(desk[name]), type(value))
        for one in lists_in(desk[name]):
            one.append("changed")
        self.assertEqual(desk[name], value)
        self.assertEqual([len(desk), desk.lines()[-1], name in desk], [many + 1, command, True])

    def test_plans(self):
        desk = Desk()
        self.check_kept(desk, "plan p 3 0:1;1:2 0:2", LINE)
        self.check_kept(desk, "plan q 0 none none", Plan(0, [], []))
        self.check_kept(desk, "plan r 6 5:0;4:1 0:1;2:3", Plan(6, [(5, 0), (4, 1)], [(0, 1), (2, 3)]))
        self.check_kept(desk, "more m p 0:2 0:1;1:2", Plan(3, [(0, 1), (0, 2), (1, 2)], [(0, 1), (0, 2), (1, 2)]))
        self.check_kept(desk, "more n p none none", LINE)
        self.check_kept(desk, "less k m 0:2 0:1;1:2", LINE)
        self.check_kept(desk, "rename o p 2,0,1", Plan(3, [(0, 1), (2, 0)], [(1, 2)]))
        self.check_kept(desk, "rename z q -", Plan(0, [], []))
        self.check_kept(desk, "lot l 0,2", [0, 2])
        self.check_kept(desk, "cut c p l", Plan(2, [], [(0, 1)]))
        self.check_kept(desk, "beside b p c", Plan(5, [(0, 1), (1, 2)], [(0, 2), (3, 4)]))
        self.assertEqual(desk.names, sorted("pqrmnkozlcb"))

    def test_tables_pairs_lots(self):
        desk = Desk()
        self.check_kept(desk, "table t 1,1/2;-1/2,3", ratios([[1, Ratio(1, 2)], [Ratio(-1, 2), 3]]))
        self.check_kept(desk, "table e none", [])
        self.check_kept(desk, "table o 0", ratios([[0]]))
        self.check_kept(desk, "pair a 0,2;0,0 1,0;0,1", (ratios([[0, 2], [0, 0]]), ratios([[1, 0], [0, 1]])))
        self.check_kept(desk, "pair n none none", ([], []))
        self.check_kept(desk, "lot l 0,1,2,3,4,5", [0, 1, 2, 3, 4, 5])
        self.check_kept(desk, "lot m -", [])
        self.check_kept(desk, "lot k 5", [5])

    def test_tableof_back_moved(self):
        desk = Desk()
        desk.do_all("plan p 3 0:1;1:2 0:2", "plan q 3 none 0:1;0:2;1:2", "pair t 0,2,0;0,0,3;0,0,0 1,0,1;0,1,0;1,0,4", "plan z 0 none none",
                    "table e none")
        self.check_kept(desk, "tableof s p t", ratios(TABLE))
        self.check_kept(desk, "back u p s", (ratios([[0, 2, 0], [0, 0, 3], [0, 0, 0]]), ratios([[1, 0, 1], [0, 1, 0], [1, 0, 4]])))
        self.check_kept(desk, "moved v p q t", (ratios([[0] * 3] * 3), ratios(TABLE)))
        self.check_kept(desk, "moved w q q v", (ratios([[0] * 3] * 3), ratios(TABLE)))
        self.check_kept(desk, "back n z e", ([], []))

    def test_put_take_drop(self):
        desk = begun("lot none 0")
        self.check_answers(desk, [("put p 0:2 0:1", "-"), ("show p", "3 0:1;0:2;1:2 0:1;0:2"), ("take p 0:1;0:2 0:2", "-"), ("show p", "3 1:2 0:1"),
                                  ("put p none none", "-"), ("show p", "3 1:2 0:1"), ("drop p", "-"), ("names", "bow l none s t"),
                                  ("drop none", "-")])
        self.assertEqual([desk.names, "p" in desk, len(desk)], [["bow", "l", "s", "t"], False, 11])
        # What is kept does not hang on other names: they stay though the plan they were made of is gone.
        self.check_answers(desk, [("show s", "1,2,7;2,5,17;7,17,61"), ("plan p 1 none none", "-"), ("put p none none", "-"),
                                  ("show p", "1 none none")])

    def test_names_are_free_again(self):
        desk = begun("drop p", "table p 1")
        self.assertEqual([desk["p"], desk("show p")], [[[Ratio(1)]], "1"])
        self.check_fails(desk, "order p", errors.UnknownName, value="p")

    def test_claims_and_states(self):
        desk = begun()
        self.check_answers(desk, [
            ("claim k plain p", "k true"), ("claim k2 barred p", "k2 false"), ("claim b barred bow", "b true"), ("claim p fits p s", "p true"),
            ("claim m misfits p s", "m false"), ("claim j joined p 0 2", "j true"), ("claim n nought p 0 2", "n false"),
            ("claim e enough p none", "e true"),
            ("claim l lacks bow none", "l true"), ("claim f few bow 1", "f true"), ("claim g needs bow 1", "g false"),
            ("claim f0 few bow 0", "f0 false"),
            ("state k", "true"), ("state k2", "false"), ("claimed p", "fits p s"), ("claimed f", "few bow 1"), ("claimed j", "joined p 0 2"),
            ("claimed e", "enough p none"),
            ("states", "b true, e true, f true, f0 false, g false, j true, k true, k2 false, l true, m false, n false, p true"),
            ("forget k", "-"), ("forget p", "-"), ("states", "b true, e true, f true, f0 false, g false, j true, k2 false, l true, m false, n false"),
            ("claim k lacks bow 0:1", "k false"), ("claimed k", "lacks bow 0:1")])
        self.assertEqual(desk.labels, "b e f f0 g j k k2 l m n".split())
        self.assertEqual(desk.claim_of("k"), ("lacks", Plan(2, [(0, 1)], [(0, 1)]), [(0, 1)]))

    def test_words_of_a_claim_as_they_were(self):
        desk = begun("claim k enough p 1:2;0:1")
        self.assertEqual([desk("claimed k"), desk.claim_of("k")], ["enough p 1:2;0:1", ("enough", LINE, [(1, 2), (0, 1)])])


class Questions(Case):

    def test_answers(self):
        desk = begun("plan z 0 none none", "table e none", "table h 1/2", "pair y none none", "lot o -")
        self.check_answers(desk, [
            ("names", "bow e h l o p s t y z"), ("show p", "3 0:1;1:2 0:2"), ("show z", "0 none none"), ("show e", "none"), ("show h", "1/2"),
            ("show y", "none none"),
            ("show o", "-"), ("show l", "0,2"), ("show t", "0,2,0;0,0,3;0,0,0 1,0,1;0,1,0;1,0,4"), ("show s", "1,2,7;2,5,17;7,17,61"),
            ("order p", "0,1,2"), ("order z", "-"), ("bars p", "none"), ("bars bow", "0,1"), ("bars z", "none"), ("head p l", "none"),
            ("head p o", "none"),
            ("greatest p 2", "2"), ("greatest bow 1", "0,1"), ("joined p 0 2", "yes"), ("joined p 2 1", "yes"), ("full p", "yes"),
            ("full bow", "no"), ("full z", "yes"),
            ("telling p t", "yes"), ("telling bow t", "no"), ("telling z y", "yes"), ("apart p t t", "none"), ("apart z y y", "none"),
            ("fewest p", "0"), ("fewest bow", "1"),
            ("same p p", "yes"), ("same p bow", "no"), ("same s s", "yes"), ("same e s", "no"), ("same l o", "no"), ("same t y", "no"),
            ("same o o", "yes"),
            ("states", "-"), ("undo", "lot o -"), ("redo", "lot o -")])
        self.assertEqual(Desk().do_all("names", "states"), ["-", "-"])

    def test_longer_answers(self):
        desk = Desk()
        desk.do_all("plan c 4 0:1;1:2;2:3 0:1;0:2;0:3;1:3;1:2", "plan b 3 2:0;1:2 0:2", "lot l 0,2", "lot m 1", "plan r 3 2:1;1:0 none",
                    "pair f 0,0;0,0 1,0;0,1",
                    "pair g 0,1;0,0 1,-1;-1,2", "plan bow 2 0:1 0:1", "plan n 3 none none", "lot all 0,1,2",
                    "pair h 0,0,0;1/2,0,0;0,3,0 1,0,0;0,1,0;0,0,1")
        self.check_answers(desk, [
            ("bars c", "0,1;1,2"), ("order b", "1,2,0"), ("order r", "2,1,0"), ("head b l", "0"), ("head b m", "1"), ("head b all", "0"),
            ("head r all", "0"), ("head n all", "none"),
            ("greatest c 3", "0,1,2,3"), ("bars b", "0,2"), ("apart bow f g", "0:1"), ("joined n 0 1", "no"), ("joined n 1 1", "yes"),
            ("full n", "no"), ("telling bow g", "yes"),
            ("telling n f", "no"), ("telling r h", "yes"), ("apart r h h", "none"), ("fewest c", "3"), ("fewest n", "0")])

    def test_numbers_as_long_as_they_are(self):
        desk = Desk()
        desk.do_all("plan p 2 0:1 none", "pair a 0,999999;0,0 999999,0;0,1", "tableof s p a")
        self.assertEqual(desk("show s"), f"999999,{999999 ** 2};{999999 ** 2},{999999 ** 3 + 1}")

    def test_questions_are_no_deeds(self):
        desk = begun("claim k plain p", "undo")
        many = len(desk)
        desk.do_all("names", "states", "show p", "order p", "bars p", "head p l", "greatest p 0", "joined p 0 1", "full p", "telling p t",
                    "apart p t t", "fewest p", "same p p")
        self.assertEqual([len(desk), desk.lines()], [many, AHEAD])
        # What was taken back can be done again, as no deed has come between.
        self.assertEqual(desk("redo"), "claim k plain p")


class States(Case):

    def test_true_false_gone_and_back(self):
        desk = begun("claim k plain p", "claim m fits p s", "claim j joined p 1 2", "claim e enough p 0:1", "claim f few p 0", "claim x barred bow")
        self.check_answers(desk, [
            ("put p none 0:1", "e false, f false, k false, m gone"), ("state m", "gone"),
            ("states", "e false, f false, j true, k false, m gone, x true"),
            ("take p 1:2 none", "e true"), ("undo", "take p 1:2 none"), ("states", "e false, f false, j true, k false, m gone, x true"),
            ("take p 0:1 none", "e gone, f true, k true, m true"), ("undo", "take p 0:1 none"), ("take p none 0:1", "e true, f true, k true, m true"),
            ("drop p", "e gone, f gone, j gone, k gone, m gone"), ("state x", "true"), ("plan p 2 0:1 none", "e true, f true, k true"),
            ("drop p", "e gone, f gone, k gone"), ("lot p 0", "-"), ("drop p", "-"), ("table p 1", "-"), ("undo", "table p 1"), ("undo", "drop p"),
            ("undo", "lot p 0"),
            ("undo", "drop p"), ("states", "e true, f true, j gone, k true, m gone, x true"), ("redo", "drop p"),
            ("states", "e gone, f gone, j gone, k gone, m gone, x true"),
            ("plan p 3 0:1;1:2 0:2", "e true, f true, j true, k true, m true"), ("drop s", "m gone"), ("table s 1,2;3,4", "-"), ("state m", "gone"),
            ("drop s", "-"),
            ("table s 1,0,0;0,1,0;0,0,1", "m true"), ("drop s", "m gone"), ("table s 1,0,0;0,1,1;0,1,1", "m false"), ("drop s", "m gone"),
            ("lot s 0,1,2", "-"),
            ("drop s", "-"), ("pair s none none", "-")])

    def test_gone_as_is_true_refuses_it(self):
        desk = Desk()
        desk.do_all(f"plan p 6 {SEVEN} none", "claim f few p 0", "claim n needs p 0", "claim k plain p")
        self.check_answers(desk, [("put p 1:4 none", "f gone, n gone"), ("state k", "true"), ("take p 1:4 none", "f true, n false"),
                                  ("put p none 0:1", "f false, k false, n true")])
        self.assertIsNone(begun("claim m fits p s", "put p none 0:1").claim_of("m"))

    def test_no_claim_any_more(self):
        desk = Desk()
        desk.do_all("plan p 3 0:1;1:2 none", "claim j joined p 1 2", "claim e lacks p 1:2")
        self.check_answers(desk, [("take p 1:2 none", "e gone, j false"), ("put p 1:2 none", "e false, j true"), ("drop p", "e gone, j gone"),
                                  ("plan p 2 0:1 none", "-"), ("states", "e gone, j gone")])

    def test_claim_of(self):
        desk = begun("claim k fits p s", "claim j nought p 2 0", "claim e enough p 0:1;1:2", "claim f needs p 3", "claim b barred bow")
        wanted = {"k": ("fits", LINE, ratios(TABLE)), "j": ("nought", LINE, 2, 0), "e": ("enough", LINE, [(0, 1), (1, 2)]), "f": ("needs", LINE, 3),
                  "b": ("barred", Plan(2, [(0, 1)], [(0, 1)]))}
        for label, claim in wanted.items():
            for told in (desk.claim_of(label), desk.claim_of(label=label)):
                self.assertEqual(told, claim)
                self.assertTrue(all(same(one, other) for one, other in zip(told, claim) if not isinstance(one, Plan)))
            for one in lists_in(desk.claim_of(label)):
                one.append("changed")
            self.assertEqual(desk.claim_of(label), claim)
        desk.do_all("drop s", "put p 0:2 none")
        self.assertEqual([desk.claim_of("k"), desk.claim_of("j")], [None, ("nought", Plan(3, [(0, 1), (0, 2), (1, 2)], [(0, 2)]), 2, 0)])
        for value in ALL_KINDS + ["p", "s", "z", "K", "", Stubborn(), ["k"], ("k",)]:
            check_refused(self, errors.UnknownLabel, value, desk.claim_of, value)
            check_refused(self, errors.UnknownLabel, value, desk.claim_of, label=value)

    def test_labels_that_are_names(self):
        desk = begun("claim p plain p", "claim s fits p s")
        self.check_answers(desk, [("drop s", "s gone"), ("forget p", "-"), ("show p", "3 0:1;1:2 0:2"), ("claim p barred p", "p false"),
                                  ("drop p", "p gone")])
        self.assertEqual([desk.names, desk.labels], [["bow", "l", "t"], ["p", "s"]])

    def test_a_forgotten_label_noted_anew(self):
        desk = begun("claim k plain p")
        self.check_answers(desk, [("forget k", "-"), ("claim k plain p", "k true"), ("forget k", "-"), ("claim k barred p", "k false"),
                                  ("undo", "claim k barred p"),
                                  ("states", "-"), ("undo", "forget k"), ("states", "k true")])
        for command, error in (("state j", errors.UnknownLabel), ("claimed j", errors.UnknownLabel), ("forget j", errors.UnknownLabel)):
            self.check_fails(desk, command, error, value="j")


class Refused(Case):

    def test_no_commands(self):
        desk = begun()
        for value in ALL_KINDS + ["", "plan", "plan p", "names ", "undo undo", Stubborn(), ["names"], ("names",), b"names"]:
            for call in (desk.do, desk):
                check_refused(self, errors.InvalidCommand, value, call, value)
                check_refused(self, errors.InvalidCommand, value, call, command=value)
        self.assertEqual(desk.lines(), AHEAD)

    def test_taken_ahead_of_all_else(self):
        desk = begun("claim k plain p")
        for command in ("plan p 7 0:0 none", "table p 1,2", "pair p 1,2 3", "lot p 9", "more p no none none", "less p no none none", "rename p no 0",
                        "cut p no l",
                        "beside p no p", "tableof p no t", "back p no s", "moved p no p t"):
            self.check_fails(desk, command, errors.NameTaken, name="p")
        for command in ("claim k plain no", "claim k plain p", "claim k joined p 9 9", "claim k fits p l"):
            self.check_fails(desk, command, errors.LabelTaken, label="k")

    def test_unknown_names(self):
        desk = begun("lot one 0", "table e none", "lot none -")
        for command, name in (
                ("more q s 0:9 none", "s"), ("less q no none none", "no"), ("rename q l 0,0", "l"), ("cut q s no", "s"), ("cut q p no", "no"),
                ("cut q p p", "p"),
                ("beside q s no", "s"), ("beside q p no", "no"), ("beside q p s", "s"), ("tableof q no no2", "no"), ("tableof q p s", "s"),
                ("back q p t", "t"),
                ("back q s p", "s"), ("moved q no no2 no3", "no"), ("moved q p no no2", "no"), ("moved q p s t", "s"), ("moved q p p s", "s"),
                ("put s 9:9 none", "s"),
                ("take no none none", "no"), ("drop no", "no"), ("show no", "no"), ("order s", "s"), ("bars l", "l"), ("head p s", "s"),
                ("head no l", "no"), ("head s no", "s"),
                ("greatest t 9", "t"), ("joined no 9 9", "no"), ("full s", "s"), ("telling p s", "s"), ("telling s t", "s"), ("apart p s t", "s"),
                ("apart p t s", "s"),
                ("apart p t p", "p"), ("fewest l", "l"), ("same no p", "no"), ("same p no", "no"), ("same p s", "s"), ("same s t", "t"),
                ("same t s", "s"), ("same l s", "s"),
                ("same e none", "none"), ("same none e", "e"), ("claim k plain s", "s"), ("claim k fits p t", "t"), ("claim k fits no t", "no"),
                ("claim k joined l 9 9", "l"),
                ("claim k enough no 9:9", "no"), ("claim k few no 9", "no")):
            self.check_fails(desk, command, errors.UnknownName, value=name)

    def test_errors_of_what_makes_it(self):
        desk = begun("drop l", "plan q 3 none none", "table u 1,2,3;4,5,6;7,8,9", "table low 0,0,0;0,0,0;0,0,0", "plan six 6 none none",
                     "lot far 4,5", "pair w 0,0;0,0 1,0;0,1",
                     f"plan many 6 {SEVEN};1:4 none", "table two 1,0;0,1")
        bow = Plan(2, [(0, 1)], [(0, 1)])
        telling = ratios([[0, 2, 0], [0, 0, 3], [0, 0, 0]]), ratios([[1, 0, 1], [0, 1, 0], [1, 0, 4]])
        small = ratios([[0, 0], [0, 0]]), ratios([[1, 0], [0, 1]])
        any_table = ratios([[1, 2, 3], [4, 5, 6], [7, 8, 9]])
        for command, error, parts in (
                ("plan n 7 none none", errors.InvalidSize, {"value": 7}), ("plan n 99 0:0 none", errors.InvalidSize, {"value": 99}),
                ("plan n 3 0:3 1:0", errors.InvalidArrows, {"value": [(0, 3)]}), ("plan n 3 0:1;1:0 none", errors.InvalidArrows, {"value": [(0, 1),
                (1, 0)]}),
                ("plan n 3 none 1:0", errors.InvalidTies, {"value": [(1, 0)]}), ("plan n 3 0:1;0:1 none", errors.InvalidArrows, {"value": [(0, 1),
                (0, 1)]}),
                ("plan n 0 none 0:1", errors.InvalidTies, {"value": [(0, 1)]}), ("table n 1,2", errors.InvalidTable, {"value": ratios([[1, 2]])}),
                ("table n 1;2", errors.InvalidTable, {"value": ratios([[1], [2]])}),
                ("table n 1,1/2;3", errors.InvalidTable, {"value": ratios([[1, Ratio(1, 2)], [3]])}),
                ("pair n 1,2 3,4", errors.InvalidTable, {"value": ratios([[1, 2]])}),
                ("pair n 1 3,4", errors.InvalidTable, {"value": ratios([[3, 4]])}),
                ("pair n 1,2 none", errors.InvalidTable, {"value": ratios([[1, 2]])}),
                ("pair n none 1;2", errors.InvalidTable, {"value": ratios([[1], [2]])}),
                ("pair n 1 none", errors.UnlikeSizes, {}), ("pair n 1 1,0;0,1", errors.UnlikeSizes, {}),
                ("lot n 1,0", errors.InvalidLot, {"value": [1, 0]}),
                ("lot n 0,0", errors.InvalidLot, {"value": [0, 0]}), ("lot n 6", errors.InvalidLot, {"value": [6]}),
                ("lot n 0,99", errors.InvalidLot, {"value": [0, 99]}),
                ("more n p 0:1 none", errors.InvalidArrows, {"value": [(0, 1)]}), ("more n p 2:0 9:9", errors.InvalidArrows, {"value": [(2, 0)]}),
                ("more n p none 0:2", errors.InvalidTies, {"value": [(0, 2)]}), ("less n p 0:2 none", errors.InvalidArrows, {"value": [(0, 2)]}),
                ("less n p none 0:1", errors.InvalidTies, {"value": [(0, 1)]}), ("put p 0:1 none", errors.InvalidArrows, {"value": [(0, 1)]}),
                ("put p none 0:9", errors.InvalidTies, {"value": [(0, 9)]}), ("take p 1:0 none", errors.InvalidArrows, {"value": [(1, 0)]}),
                ("take p none 1:2;0:2", errors.InvalidTies, {"value": [(1, 2), (0, 2)]}), ("rename n p 0,1", errors.InvalidOrder, {"value": [0, 1]}),
                ("rename n p -", errors.InvalidOrder, {"value": []}), ("rename n p 0,1,1", errors.InvalidOrder, {"value": [0, 1, 1]}),
                ("cut n p far", errors.InvalidLot, {"value": [4, 5]}), ("tableof n bow t", errors.InvalidTelling, {"value": telling}),
                ("tableof n p w", errors.InvalidTelling, {"value": small}), ("back n p u", errors.InvalidTable, {"value": any_table}),
                ("back n p two", errors.InvalidTable, {"value": ratios([[1, 0], [0, 1]])}), ("back n bow two", errors.NotPlain, {}),
                ("back n q s", errors.NoneThere, {}),
                ("back n p low", errors.NoneThere, {}), ("moved n p bow t", errors.InvalidPlan, {"value": bow}),
                ("moved n q p t", errors.InvalidTelling, {"value": telling}),
                ("moved n p q t", errors.NotFull, {}), ("beside n six bow", errors.TooMany, {"what": "size", "limit": 6}),
                ("head p far", errors.InvalidLot, {"value": [4, 5]}),
                ("greatest p 3", errors.InvalidThing, {"value": 3}), ("joined p 3 4", errors.InvalidThing, {"value": 3}),
                ("joined p 0 99", errors.InvalidThing, {"value": 99}),
                ("apart bow t w", errors.InvalidTelling, {"value": telling}), ("apart bow w t", errors.InvalidTelling, {"value": telling}),
                ("fewest many", errors.TooMany, {"what": "arrows", "limit": 7})):
            self.check_fails(desk, command, error, **parts)
        for one, other in ((telling, "t"), (any_table, "u")):
            self.assertEqual(desk[other], one)

    def test_what_an_error_has_is_nothing_kept(self):
        desk = begun("lot far 4,5", "table u 1,2;3,4")
        for command in ("cut n p far", "back n p u", "tableof n bow t", "claim k fits p u", "lot n 1,0"):
            with self.assertRaises(errors.PlanError) as caught:
                desk.do(command)
            for one in lists_in(caught.exception.value):
                one.append("changed")
        self.assertEqual([desk["far"], desk["u"], desk["t"]], [[4, 5], ratios([[1, 2], [3, 4]]),
                                                              (ratios([[0, 2, 0], [0, 0, 3], [0, 0, 0]]), ratios([[1, 0, 1], [0, 1, 0], [1, 0, 4]]))])

    def test_no_claims(self):
        desk = begun("table u 1,2,3;4,5,6;7,8,9", "table two 1,0;0,1", f"plan many 6 {SEVEN};1:4 none")
        bow, many = Plan(2, [(0, 1)], [(0, 1)]), desk["many"]
        for words, value in (("fits p u", ("fits", LINE, ratios([[1, 2, 3], [4, 5, 6], [7, 8, 9]]))),
                             ("misfits p two", ("misfits", LINE, ratios([[1, 0], [0, 1]]))),
                             ("joined p 0 3", ("joined", LINE, 0, 3)), ("nought p 99 0", ("nought", LINE, 99, 0)),
                             ("enough p 0:2", ("enough", LINE, [(0, 2)])),
                             ("lacks p 0:1;0:1", ("lacks", LINE, [(0, 1), (0, 1)])), ("few p 8", ("few", LINE, 8)),
                             ("needs p 99", ("needs", LINE, 99)),
                             ("few many 8", ("few", many, 8)), ("fits bow s", ("fits", bow, ratios(TABLE)))):
            self.check_claim_fails(desk, f"claim k {words}", value)
        for word in ("fits", "misfits"):
            self.check_fails(desk, f"claim k {word} bow two", errors.NotPlain)
        for word in ("few", "needs"):
            self.check_fails(desk, f"claim k {word} many 7", errors.TooMany, what="arrows", limit=7)

class Limits(Case):

    def test_names(self):
        desk = Desk()
        for name in FULL_WORDS:
            desk.do(f"lot {name} 0")
        for command in ("lot n 0", "plan n 3 none none", "table n none", "pair n none none"):
            self.check_fails(desk, command, errors.TooMany, what="names", limit=12)
        # All other errors come ahead of it.
        self.check_fails(desk, "lot n 9", errors.InvalidLot, value=[9])
        self.check_fails(desk, "lot a0 0", errors.NameTaken, name="a0")
        self.check_fails(desk, "more n p none none", errors.UnknownName, value="p")
        self.check_answers(desk, [("drop b2", "-"), ("plan p 3 none none", "-"), ("undo", "plan p 3 none none"), ("lot n 0", "-")])
        self.check_fails(desk, "lot b2 0", errors.TooMany, what="names", limit=12)
        self.assertEqual(len(desk.names), 12)

    def test_made_ones(self):
        desk = begun("plan full 3 none 0:1;0:2;1:2", *[f"lot {name} 0" for name in FULL_WORDS[:6]])
        for command in ("more n p none none", "less n p none none", "rename n p 0,1,2", "cut n p l", "beside n p p", "tableof n p t", "back n p s",
                        "moved n p full t"):
            self.check_fails(desk, command, errors.TooMany, what="names", limit=12)
        self.check_fails(desk, "moved n p bow t", errors.InvalidPlan, value=desk["bow"])
        self.check_answers(desk, [("put p 0:2 none", "-"), ("claim k plain p", "k false")])

    def test_labels(self):
        desk = begun()
        for label in FULL_WORDS:
            self.assertEqual(desk.do(f"claim {label} plain p"), f"{label} true")
        for words in ("plain p", "barred p", "few p 7", "fits p s"):
            self.check_fails(desk, f"claim n {words}", errors.TooMany, what="labels", limit=12)
        self.check_fails(desk, "claim a0 plain p", errors.LabelTaken, label="a0")
        self.check_fails(desk, "claim n plain no", errors.UnknownName, value="no")
        self.check_claim_fails(desk, "claim n few p 8", ("few", LINE, 8))
        desk.do("put p none 0:1")
        self.check_fails(desk, "claim n fits p s", errors.NotPlain)
        self.check_answers(desk, [("forget c3", "-"), ("claim n joined p 0 1", "n true")])
        self.check_fails(desk, "claim c3 plain p", errors.TooMany, what="labels", limit=12)

    def test_deeds(self):
        desk = Desk()
        desk.do_all("plan p 3 none none", *["put p none none"] * 299)
        self.assertEqual([len(desk), len(desk.lines())], [300, 300])
        for command in ("put p none none", "lot l 0", "claim k plain p", "drop p", "take p none none"):
            self.check_fails(desk, command, errors.TooMany, what="deeds", limit=300)
        self.check_fails(desk, "put p 0:9 none", errors.InvalidArrows, value=[(0, 9)])
        self.check_fails(desk, "forget k", errors.UnknownLabel, value="k")
        self.check_answers(desk, [("names", "p"), ("undo", "put p none none"), ("redo", "put p none none"), ("undo", "put p none none"),
                                  ("claim k plain p", "k true")])
        self.check_fails(desk, "forget k", errors.TooMany, what="deeds", limit=300)
        self.assertEqual(len(Desk.again(desk.lines())), 300)

    def test_names_and_labels_ahead_of_deeds(self):
        desk = Desk()
        desk.do_all(*[f"lot {name} 0" for name in FULL_WORDS[1:]], "plan p 3 none none", *[f"claim {name} plain p" for name in FULL_WORDS],
                    *["put p none none"] * 276)
        self.assertEqual(len(desk), 300)
        self.check_fails(desk, "lot n 0", errors.TooMany, what="names", limit=12)
        self.check_fails(desk, "claim n plain p", errors.TooMany, what="labels", limit=12)
        self.check_fails(desk, "drop p", errors.TooMany, what="deeds", limit=300)


class Undone(Case):

    def test_undo_and_redo(self):
        desk = Desk()
        for command, error in (("undo", errors.NothingToUndo), ("redo", errors.NothingToRedo)):
            self.check_fails(desk, command, error)
        seen = [held(desk)]
        lines = AHEAD + ["claim k plain p", "put p none 0:1", "drop s", "forget k", "claim k barred p", "take p 0:1 none"]
        for line in lines:
            desk.do(line)
            seen.append(held(desk))
        for at in range(len(lines) - 1, -1, -1):
            self.assertEqual((desk.do("undo"), held(desk)), (lines[at], seen[at]))
        self.check_fails(desk, "undo", errors.NothingToUndo)
        for at, line in enumerate(lines):
            self.assertEqual((desk.do("redo"), held(desk)), (line, seen[at + 1]))
        self.check_fails(desk, "redo", errors.NothingToRedo)

    def test_a_deed_between(self):
        desk = begun("lot m 0", "undo", "undo")
        self.check_fails(desk, "lot n 9", errors.InvalidLot, value=[9])
        self.assertEqual(desk("redo"), "plan bow 2 0:1 0:1")
        desk.do_all("undo", "put p none none")
        self.check_fails(desk, "redo", errors.NothingToRedo)
        self.assertEqual([desk("undo"), desk("redo")], ["put p none none"] * 2)

    def test_undo_of_a_put_gives_the_plan_back(self):
        desk = begun("claim k plain p", "put p none 0:1", "undo")
        self.assertEqual([desk["p"], desk("state k")], [LINE, "true"])


class Kept(Case):

    def test_getting(self):
        desk = begun()
        for value in ALL_KINDS + ["no", "P", "p ", "", ["p"], ("p",), Stubborn(), {"p": 1}, b"p"]:
            check_refused(self, errors.UnknownName, value, desk.__getitem__, value)
            self.assertIs(value in desk, False)
        self.assertEqual([name in desk for name in ("p", "t", "s", "l", "bow", "k")], [True] * 5 + [False])
        self.assertEqual([desk["p"], desk["s"], desk["l"]], [LINE, ratios(TABLE), [0, 2]])
        self.assertEqual(table_of(desk["p"], desk["t"]), desk["s"])

    def test_sorted_and_new_each_time(self):
        desk = begun("claim z plain p", "claim a plain p")
        for call, wanted in ((lambda: desk.names, ["bow", "l", "p", "s", "t"]), (lambda: desk.labels, ["a", "z"]),
                             (desk.lines, AHEAD + ["claim z plain p", "claim a plain p"])):
            told = call()
            self.assertEqual((type(told), told), (list, wanted))
            told.append("changed")
            self.assertEqual(call(), wanted)
        self.assertEqual([Desk().names, Desk().labels, Desk().lines(), len(Desk())], [[], [], [], 0])

    def test_not_iterated_over(self):
        with self.assertRaises(TypeError):
            list(begun())

    def test_by_name(self):
        desk = Desk()
        self.assertEqual([desk.do(command="plan p 3 none none"), desk(command="names")], ["-", "p"])
        self.assertEqual(desk["p"], Plan(3, [], []))
        self.assertEqual(ones(desk["p"]), (ratios([[0] * 3] * 3), ratios([[3, 0, 0], [0, 3, 0], [0, 0, 3]])))
        self.assertEqual(len(all_ties(3)), 3)


if __name__ == "__main__":
    unittest.main()
