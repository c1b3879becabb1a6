"""Several commands at once, attempts, copies, desks that do deeds again, and trials."""

import unittest

from tests.kinds import ALL_KINDS, same
from tests.test_desk import AHEAD, begun, held
from toldpushes import errors
from toldpushes.desk import Desk, Trial, tried
from toldpushes.plans import Plan


class Halt(Exception):
    """An error of none of the package's kinds."""


class Case(unittest.TestCase):

    def check_failed(self, call, commands, position, cause):
        with self.assertRaises(errors.CommandFailed) as caught:
            call(*commands)
        self.assertIs(type(caught.exception), errors.CommandFailed)
        self.assertEqual(vars(caught.exception), {"position": position})
        self.assertIs(type(caught.exception.__cause__), cause)
        return caught.exception.__cause__


class All(Case):

    def test_answers(self):
        desk = Desk()
        told = desk.do_all("plan p 3 none none", "names", "claim k plain p", "undo", "redo", "states")
        self.assertEqual((type(told), told), (list, ["-", "p", "k true", "claim k plain p", "claim k plain p", "k true"]))
        self.assertEqual(desk.do_all(), [])
        self.assertEqual(desk.lines(), ["plan p 3 none none", "claim k plain p"])

    def test_nothing_has_an_effect_when_one_fails(self):
        desk = begun("claim k plain p", "lot m 0", "undo")
        before = held(desk)
        for commands, position, cause, value in (
                (("drop p", "names", "order p"), 2, errors.UnknownName, "p"), (("no",), 0, errors.InvalidCommand, "no"),
                (("lot n 1", None), 1, errors.InvalidCommand, None),
                (("plan n 7 none none", "no"), 0, errors.InvalidSize, 7), (("undo", "undo", "forget k"), 2, errors.UnknownLabel, "k"),
                (("put p none 0:1", "claim z joined p 0 9"), 1, errors.InvalidClaim, ("joined", Plan(3, [(0, 1), (1, 2)], [(0, 1), (0, 2)]), 0, 9)),
                (("redo", "lot m 0"), 1, errors.NameTaken, "m"), (("forget k", "claim k plain p", "claim k plain p"), 2, errors.LabelTaken, "k"),
                ((("drop p",),), 0, errors.InvalidCommand, ("drop p",)), ((["names"], "names"), 0, errors.InvalidCommand, ["names"])):
            for call in (desk.do_all, desk.attempt):
                found = self.check_failed(call, commands, position, cause)
                self.assertEqual(list(vars(found).values()), [value])
                self.assertEqual(held(desk), before)
        # Also what can be done again is as it was.
        self.assertEqual(desk("redo"), "lot m 0")

    def test_errors_without_parts(self):
        desk = begun("plan q 3 none none")
        for commands, position, cause in ((["undo"] * 7, 6, errors.NothingToUndo), (["undo", "redo", "redo"], 2, errors.NothingToRedo),
                                          (["back u q s"], 0, errors.NoneThere), (["put p none 0:1", "back u p s"], 1, errors.NotPlain),
                                          (["lot u 0", "pair v 1 none"], 1, errors.UnlikeSizes), (["moved u p q t"], 0, errors.NotFull)):
            self.check_failed(desk.do_all, commands, position, cause)
            self.assertEqual(len(desk), 6)

    def test_too_many_deeds(self):
        desk = begun()
        cause = self.check_failed(desk.do_all, ["put p none none"] * 296, 295, errors.TooMany)
        self.assertEqual([(cause.what, cause.limit), desk.lines()], [("deeds", 300), AHEAD])
        desk.do_all(*["put p none none"] * 295)
        self.assertEqual(len(desk), 300)


class Attempts(Case):

    def test_all_is_as_before(self):
        desk = begun("claim k plain p", "lot m 0", "undo")
        before = held(desk)
        told = desk.attempt("put p none 0:1", "states", "undo", "redo", "drop p", "plan p 0 none none", "show p", "forget k", "names")
        self.assertEqual(told, ["k false", "k false", "put p none 0:1", "put p none 0:1", "k gone", "k true", "0 none none", "-", "bow l p s t"])
        self.assertEqual(held(desk), before)
        self.assertEqual([desk.attempt(), desk.attempt("redo"), desk.attempt("undo"), desk("redo")],
                         [[], ["lot m 0"], ["claim k plain p"], "lot m 0"])
        self.assertEqual(desk["p"], Plan(3, [(0, 1), (1, 2)], [(0, 2)]))


class Copies(Case):

    def test_goes_on_by_itself(self):
        desk = begun("claim k plain p", "lot m 0", "undo")
        other = desk.copy()
        self.assertIs(type(other), Desk)
        self.assertEqual(held(other), held(desk))
        self.assertEqual(other("redo"), "lot m 0")
        before = held(desk)
        other.do_all("drop p", "forget k", "undo", "plan n 2 none none")
        self.assertEqual(held(desk), before)
        self.assertEqual([other.names, desk.names, other.labels, desk("redo")],
                         [["bow", "l", "m", "n", "s", "t"], ["bow", "l", "p", "s", "t"], ["k"], "lot m 0"])
        before = held(other)
        desk.do_all(*["undo"] * len(desk))
        self.assertEqual(held(other), before)
        self.assertEqual(held(Desk().copy()), held(Desk()))

    def test_again(self):
        desk = begun("claim k plain p", "put p none 0:1", "lot m 0", "undo", "forget k", "undo", "redo")
        other = Desk.again(desk.lines())
        self.assertIs(type(other), Desk)
        self.assertEqual(held(other), held(desk))
        self.assertEqual([held(Desk.again(lines=tuple(desk.lines()))), held(Desk.again([]))], [held(desk), held(Desk())])
        # What was taken back is not done again.
        with self.assertRaises(errors.NothingToRedo):
            other.do("redo")
        lines = desk.lines()
        other = Desk.again(lines)
        self.assertEqual(lines, desk.lines())
        lines[0] = "changed"
        self.assertEqual(other.lines(), desk.lines())

    def check_no_lines(self, lines, position):
        for passed, named in (((lines,), {}), ((), {"lines": lines})):
            with self.assertRaises(errors.InvalidLines) as caught:
                Desk.again(*passed, **named)
            self.assertIs(type(caught.exception), errors.InvalidLines)
            self.assertTrue(same(vars(caught.exception)["position"], position), (lines, position))
            self.assertEqual(list(vars(caught.exception)), ["position"])

    def test_no_lines(self):
        for value in ALL_KINDS + ["lot l 0", iter(["lot l 0"]), {"lot l 0": 1}]:
            if not isinstance(value, (list, tuple)):
                self.check_no_lines(value, None)
        for value in ALL_KINDS + ["undo", "redo", "names", "states", "show l", "lot l 0\n", " lot l 0", "lot", "", ["lot l 0"]]:
            self.check_no_lines([value], 0)
            self.check_no_lines(("lot l 0", "lot l 0", value, value), 2)
        # What is no deed comes ahead of deeds that fail.
        self.check_no_lines(["lot l 9", "drop no", "undo"], 2)

    def test_deeds_that_fail(self):
        for lines, position, cause in ((["drop no"], 0, errors.UnknownName), (["lot l 0", "lot l 0"], 1, errors.NameTaken),
                                       (AHEAD + ["put p 0:1 none"], 5, errors.InvalidArrows),
                                       (["plan p 3 none none"] + ["put p none none"] * 300, 300, errors.TooMany)):
            self.check_failed(lambda *passed: Desk.again(list(passed)), lines, position, cause)


class Trials(Case):

    def test_a_block(self):
        desk = begun("claim k plain p", "lot m 0", "undo")
        before = held(desk)
        trial = Trial(desk)
        for _ in range(2):
            with trial as one:
                self.assertIs(one, desk)
                one.do_all("put p none 0:1", "drop s", "forget k")
                self.assertEqual([desk.names, len(desk)], [["bow", "l", "p", "t"], 9])
            self.assertEqual(held(desk), before)
        with Trial(desk=desk) as one:
            one.do_all(*["undo"] * len(desk))
        self.assertEqual(held(desk), before)
        self.assertEqual(desk("redo"), "lot m 0")

    def test_it_begins_with_the_block(self):
        desk = Desk()
        trial = Trial(desk)
        desk.do("lot l 0")
        with trial:
            desk.do("lot m 0")
        self.assertEqual(desk.names, ["l"])
        desk.do("lot n 0")
        with trial:
            desk.do("drop l")
        self.assertEqual(desk.names, ["l", "n"])

    def test_an_error_leaves_the_block(self):
        desk = begun("claim k plain p", "lot m 0", "undo")
        before = held(desk)
        for error in (Halt("x"), errors.NotPlain(), KeyError("x"), errors.InvalidPlan(3)):
            with self.assertRaises(type(error)) as caught:
                with Trial(desk) as one:
                    one.do_all("drop p", "lot n 0")
                    raise error
            self.assertIs(caught.exception, error)
            self.assertEqual(held(desk), before)
        with self.assertRaises(errors.UnknownName):
            with Trial(desk):
                desk.do("drop p")
                desk.do("order p")
        self.assertEqual(held(desk), before)

    def test_within_one_another(self):
        desk = begun()
        with Trial(desk):
            desk.do("drop p")
            with Trial(desk) as one:
                one.do("drop s")
                self.assertEqual(desk.names, ["bow", "l", "t"])
            self.assertEqual(desk.names, ["bow", "l", "s", "t"])
        self.assertEqual(desk.names, ["bow", "l", "p", "s", "t"])

    def test_a_block_that_is_left_by_return(self):
        desk = begun()

        def within():
            with Trial(desk) as one:
                return one("drop p"), one.names

        self.assertEqual([within(), desk.names], [("-", ["bow", "l", "s", "t"]), ["bow", "l", "p", "s", "t"]])

    def test_tried(self):
        desk = begun("claim k plain p", "lot m 0", "undo")
        before = held(desk)
        self.assertEqual(tried(desk, lambda one: one.do_all("put p none 0:1", "states")), ["k false", "k false"])
        self.assertEqual(tried(action=lambda one: one is desk, desk=desk), True)
        self.assertIsNone(tried(desk, lambda one: None))
        self.assertEqual(held(desk), before)

        def fails(one):
            one.do("drop p")
            raise Halt("x")

        with self.assertRaises(Halt):
            tried(desk, fails)
        self.assertEqual(held(desk), before)
        # A copy that is made within goes on by itself.
        copied = tried(desk, lambda one: [one.do("drop p"), one.copy()][1])
        self.assertEqual([copied.names, held(desk)], [["bow", "l", "s", "t"], before])


if __name__ == "__main__":
    unittest.main()
