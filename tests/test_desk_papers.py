"""Papers that are kept with the labels of a desk."""

import copy
import unittest

from tests.kinds import ALL_KINDS, Stubborn, check_refused, looped, same
from toldpushes.claims import contrary, is_paper_of, paper_of
from toldpushes.desk import Desk, Trial
from toldpushes.errors import CommandFailed, InvalidPaper, UnknownLabel

AHEAD = ["plan p 3 0:1;1:2 0:2", "pair t 0,2,0;0,0,3;0,0,0 1,0,1;0,1,0;1,0,4", "tableof s p t", "table i 1,0,0;0,1,1;0,1,3", "plan bow 2 0:1 0:1",
         "plan n 3 none none"]
# A claim of each word, with the state, for a paper of it or of its contrary.
CLAIMS = ["barred bow", "plain bow", "fits p s", "misfits p s", "fits n s", "misfits n s", "joined p 2 0", "nought p 2 0", "lacks bow none",
          "enough bow none",
          "few bow 1", "needs bow 1"]


def begun(*more):
    desk = Desk()
    desk.do_all(*AHEAD, *more)
    return desk


def paper_for(claim):
    """A paper of the claim, or of its contrary."""
    return paper_of(claim) or paper_of(contrary(claim))


def seen(desk):
    return [desk.names, desk.labels, desk.lines(), len(desk), desk("states"), [desk.fits(label) for label in desk.labels]]


class Papers(unittest.TestCase):

    def check_attached(self, desk, label, paper):
        before = seen(desk)[:-1]
        self.assertIsNone(desk.attach(label, paper))
        self.assertEqual(seen(desk)[:-1], before)
        self.assertIs(desk.fits(label), True)

    def check_refused_paper(self, desk, label, paper):
        before = seen(desk)
        check_refused(self, InvalidPaper, paper, desk.attach, label, paper)
        check_refused(self, InvalidPaper, paper, desk.attach, paper=paper, label=label)
        self.assertEqual(seen(desk), before)

    def test_papers_of_each_claim_and_of_its_contrary(self):
        desk = begun(*[f"claim k{at} {words}" for at, words in enumerate(CLAIMS)])
        for at, words in enumerate(CLAIMS):
            label = f"k{at}"
            claim = desk.claim_of(label)
            paper = paper_for(claim)
            self.assertIsNotNone(paper, words)
            self.assertIs(desk.fits(label), False)
            self.check_attached(desk, label, paper)
            self.assertIs(desk.fits(label=label), True)
        self.assertEqual([desk.fits(label) for label in desk.labels], [True] * 12)

    def test_papers_of_others_are_none(self):
        desk = begun(*[f"claim k{at} {words}" for at, words in enumerate(CLAIMS)])
        papers = [paper_for(desk.claim_of(f"k{at}")) for at in range(len(CLAIMS))]
        for at in range(len(CLAIMS)):
            claim = desk.claim_of(f"k{at}")
            for paper in papers + ALL_KINDS + [looped(), Stubborn(), ("rows", Stubborn()), (Stubborn(), Stubborn())]:
                if is_paper_of(claim, paper) or is_paper_of(contrary(claim), paper):
                    self.check_attached(desk, f"k{at}", paper)
                else:
                    self.check_refused_paper(desk, f"k{at}", paper)

    def test_lists_and_tuples(self):
        desk = begun("claim j joined p 2 0", "claim f few bow 1", "claim l lacks bow none", "claim m fits n s", "claim b plain bow")
        for label, paper in (("j", ([2, 1, 0], (0,))), ("f", ((0, 1),)), ("l", (0, 1)), ("m", ("rows", 1, (7,))),
                             ("b", ((((0, 0), [0, 0]), ([1, 0], (0, 1))), ([[0, 1], (0, 0)], ((1, -1), [-1, 2]))))):
            self.check_attached(desk, label, paper)
        self.check_refused_paper(desk, "j", [[2, 1, 0], [0]])
        self.check_refused_paper(desk, "f", [[0, 1]])

    def test_unknown_labels(self):
        desk = begun("claim k joined p 2 0", "claim g fits p s", "forget g")
        for value in ALL_KINDS + ["p", "g", "K", "k ", "", Stubborn(), ["k"], ("k",), b"k"]:
            for paper in (([2], [0]), None, Stubborn()):
                check_refused(self, UnknownLabel, value, desk.attach, value, paper)
                check_refused(self, UnknownLabel, value, desk.attach, paper=paper, label=value)
            check_refused(self, UnknownLabel, value, desk.fits, value)
            check_refused(self, UnknownLabel, value, desk.fits, label=value)

    def test_gone(self):
        desk = begun("claim k fits p s", "claim j joined p 2 0")
        telling = desk["t"]
        self.check_attached(desk, "k", telling)
        desk.do("put p none 0:1")
        self.assertEqual([desk.fits("k"), desk("state k")], [False, "gone"])
        # Not plain: the telling is still one with the table, but while the state is gone nothing is a paper.
        self.check_refused_paper(desk, "k", telling)
        desk.do("undo")
        self.assertIs(desk.fits("k"), True)
        desk.do("drop p")
        self.check_refused_paper(desk, "j", ([2], [0]))
        self.check_refused_paper(desk, "k", telling)
        self.assertEqual([desk.fits("k"), desk.fits("j")], [False, False])

    def test_as_things_are_now(self):
        desk = begun("claim k joined p 2 0", "claim m misfits n s")
        self.check_attached(desk, "k", ([2, 1, 0], [0]))
        self.check_attached(desk, "m", ("rows", 1, [3]))
        desk.do("take p 0:1 none")
        self.assertEqual([desk.fits("k"), desk("state k")], [False, "true"])
        self.check_refused_paper(desk, "k", ([2, 1, 0], [0]))
        desk.do_all("put p 0:1 none", "drop s", "table s 1,0,0;0,1,0;0,0,1")
        self.assertEqual([desk.fits("k"), desk.fits("m"), desk("state m")], [True, False, "false"])
        desk.do_all("drop s", "table s 2,1,0;1,2,0;0,0,1")
        self.assertEqual([desk.fits("m"), desk("state m")], [True, "true"])
        desk.do_all("drop n", "plan n 3 0:1 none")
        self.assertEqual([desk.fits("m"), desk("state m")], [False, "false"])

    def test_kept_for_the_claim_or_for_its_contrary(self):
        # It was kept for the contrary: that the claim itself turns true makes it no paper.
        desk = begun("claim k plain bow")
        self.check_attached(desk, "k", paper_of(("barred", desk["bow"])))
        desk.do("take bow none 0:1")
        self.assertEqual([desk.fits("k"), desk("state k")], [False, "true"])
        desk.do("undo")
        self.assertIs(desk.fits("k"), True)

    def test_through_deeds_forget_and_undo(self):
        desk = begun("claim k joined p 2 0")
        self.check_attached(desk, "k", ([2, 1, 0], [0]))
        desk.do("forget k")
        check_refused(self, UnknownLabel, "k", desk.fits, "k")
        desk.do("claim k joined p 2 0")
        self.assertIs(desk.fits("k"), True)
        desk.do_all("forget k", "claim k joined p 0 2")
        self.assertIs(desk.fits("k"), False)
        desk.do_all("forget k", "claim k nought p 2 0")
        # Other words, though the paper is one of the contrary.
        self.assertIs(desk.fits("k"), False)
        self.check_attached(desk, "k", ([2, 1, 0], [0]))
        desk.do_all("undo", "undo")
        self.assertEqual([desk("claimed k"), desk.fits("k")], ["joined p 0 2", False])
        desk.do_all("undo", "undo", "undo", "undo")
        self.assertEqual([desk("claimed k"), desk.fits("k"), len(desk)], ["joined p 2 0", False, 7])
        desk.do_all(*["redo"] * 6)
        self.assertEqual([desk("claimed k"), desk.fits("k")], ["nought p 2 0", True])
        desk.do_all(*["undo"] * len(desk))
        self.assertEqual(desk.names, [])
        desk.do_all("plan p 3 0:1;1:2 0:2", "claim k nought p 2 0")
        self.assertIs(desk.fits("k"), True)

    def test_in_the_place_of_another_one(self):
        desk = begun("claim k joined p 2 0")
        self.check_attached(desk, "k", ([2, 1, 0], [0]))
        self.check_attached(desk, "k", ([2], [0]))
        desk.do("take p 0:1 none")
        self.assertIs(desk.fits("k"), True)
        self.check_refused_paper(desk, "k", ([2, 1, 0], [0]))
        desk.do("undo")
        self.check_attached(desk, "k", ([2, 1, 0], [0]))
        desk.do("redo")
        self.assertIs(desk.fits("k"), False)

    def test_it_is_no_deed(self):
        desk = begun("claim k joined p 2 0", "lot l 0", "undo")
        desk.attach("k", ([2], [0]))
        self.assertEqual([len(desk), desk("redo"), desk("undo"), desk.lines()], [7, "lot l 0", "lot l 0", AHEAD + ["claim k joined p 2 0"]])

    def test_copied(self):
        desk = begun("claim k plain bow", "claim f fits p s")
        for label, paper in (("k", paper_of(("barred", desk["bow"]))), ("f", desk["t"])):
            mine = copy.deepcopy(paper)
            desk.attach(label, mine)
            self.assertTrue(same(mine, paper))
            for telling in mine if label == "k" else [mine]:
                for table in telling:
                    table[0].append("changed")
                    table.clear()
            self.assertIs(desk.fits(label), True)

    def test_with_commands_that_fail_and_trials(self):
        desk = begun("claim k joined p 2 0")
        desk.attach("k", ([2, 1, 0], [0]))
        with self.assertRaises(CommandFailed):
            desk.do_all("take p 0:1 none", "forget k", "no")
        self.assertIs(desk.fits("k"), True)
        with Trial(desk):
            desk.do("take p 0:1 none")
            desk.attach("k", ([2], [0]))
        desk.do("take p 0:1 none")
        # The paper of the trial is gone, the one ahead of it is there.
        self.assertIs(desk.fits("k"), False)

    def test_copies_of_a_desk(self):
        desk = begun("claim k joined p 2 0")
        desk.attach("k", ([2, 1, 0], [0]))
        other = desk.copy()
        other.attach("k", ([2], [0]))
        for one in (desk, other):
            one.do("take p 0:1 none")
        self.assertEqual([desk.fits("k"), other.fits("k")], [False, True])
        self.assertIs(Desk.again(desk.lines()).fits("k"), False)


if __name__ == "__main__":
    unittest.main()
