"""A desk that keeps plans, tables, pairs and lots, and notes claims about them."""

from toldpushes.answers import answer
from toldpushes.basics import fresh, is_list
from toldpushes.claims import contrary, is_paper_of
from toldpushes.commands import is_deed, parsed
from toldpushes.deeds import changes, page_behind
from toldpushes.errors import CommandFailed, InvalidCommand, InvalidLines, InvalidPaper, LimitError, MissingError
from toldpushes.errors import NothingToRedo, NothingToUndo, PlanError, StateError, TooMany, UnknownName
from toldpushes.pages import Page, claim_now

MOST_DEEDS = 300


class Held:
    """All that a desk holds at a time; it never changes, so desks may share it.

    The page of now; a dict of the papers kept with labels, each a tuple of its claim's words when it was attached, of
    the word of the claim that it shows, and of itself; the deeds, each a tuple of its line and of the page ahead of it;
    and those that were taken back, each with the page behind it.
    """

    def __init__(self, page, papers, done, left):
        self.page = page
        self.papers = papers
        self.done = done
        self.left = left


class Desk:
    """Keeps things of its own under names and notes claims under labels; commands change it and ask about it."""

    def __init__(self):
        self._held = Held(Page({}, {}, {}), {}, [], [])

    @property
    def names(self):
        """The sorted list of the names under which something is kept."""
        return sorted(self._held.page.kept)

    @property
    def labels(self):
        """The sorted list of the labels under which claims are noted."""
        return sorted(self._held.page.claims)

    def __len__(self):
        return len(self._held.done)

    def __getitem__(self, at):
        if at not in self:
            raise UnknownName(at)
        return fresh(self._held.page.kept[at][1])

    # Without it a loop over a desk would ask for what is kept under 0, 1 and so on.
    def __iter__(self):
        raise TypeError("a desk is not iterated over")

    def __contains__(self, x):
        return isinstance(x, str) and x in self._held.page.kept

    def claim_of(self, label):
        """The label's claim, with what is kept now; None while its state is gone."""
        return claim_now(self._held.page, label)

    def do(self, command):
        """The answer to the command, which is done."""
        found = parsed(command)
        if found is None:
            raise InvalidCommand(command)
        if found[0] == "undo":
            return self._take_back()
        if found[0] == "redo":
            return self._do_again()
        if is_deed(command):
            return self._do_deed(command)
        return answer(self._held.page, command)

    def __call__(self, command):
        return self.do(command)

    def _do_deed(self, line):
        """How states changed by the deed, which is done."""
        held = self._held
        page = page_behind(held.page, line)
        if len(held.done) == MOST_DEEDS:
            raise TooMany("deeds", MOST_DEEDS)
        self._held = Held(page, held.papers, [*held.done, (line, held.page)], [])
        return changes(held.page, page)

    def _take_back(self):
        """The line of the last deed, which is taken back."""
        held = self._held
        if len(held.done) == 0:
            raise NothingToUndo()
        line, page = held.done[-1]
        self._held = Held(page, held.papers, held.done[:-1], [*held.left, (line, held.page)])
        return line

    def _do_again(self):
        """The line of the last deed that was taken back, which is done again."""
        held = self._held
        if len(held.left) == 0:
            raise NothingToRedo()
        line, page = held.left[-1]
        self._held = Held(page, held.papers, [*held.done, (line, held.page)], held.left[:-1])
        return line

    def do_all(self, *commands):
        """The list of the answers to the commands; if one fails, none of them has an effect."""
        before, answers = self._held, []
        for position, command in enumerate(commands):
            try:
                answers.append(self.do(command))
            except (PlanError, MissingError, StateError, LimitError) as error:
                self._held = before
                raise CommandFailed(position) from error
        return answers

    def attempt(self, *commands):
        """The list of the answers to the commands, none of which has an effect."""
        before = self._held
        answers = self.do_all(*commands)
        self._held = before
        return answers

    def attach(self, label, paper):
        """Keeps a paper of the label's claim, or of its contrary, with the label."""
        held = self._held
        claim = claim_now(held.page, label)
        shows = [] if claim is None else [one for one in (claim, contrary(claim)) if is_paper_of(one, paper)]
        if len(shows) == 0:
            raise InvalidPaper(paper)
        kept = held.page.claims[label], shows[0][0], fresh(paper)
        self._held = Held(held.page, {**held.papers, label: kept}, held.done, held.left)

    def fits(self, label):
        """Whether a paper is kept with the label that is one, as things are now, of what it was kept for."""
        held = self._held
        claim = claim_now(held.page, label)
        if claim is None or label not in held.papers:
            return False
        text, word, paper = held.papers[label]
        return text == held.page.claims[label] and is_paper_of((word, *claim[1:]), paper)

    def lines(self):
        """The list of the lines of the deeds that are not taken back."""
        return [line for line, _ in self._held.done]

    def copy(self):
        """A desk that goes on by itself, with all that this one holds."""
        found = Desk()
        found._held = self._held
        return found

    @classmethod
    def again(cls, lines):
        """A desk that has done these deeds."""
        if not is_list(lines):
            raise InvalidLines(None)
        for position, line in enumerate(lines):
            if not is_deed(line):
                raise InvalidLines(position)
        desk = cls()
        desk.do_all(*lines)
        return desk


class Trial:
    """With it a desk is, behind a block, just as it was ahead of it."""

    def __init__(self, desk):
        self._desk = desk
        self._before = None

    def __enter__(self):
        desk = self._desk
        self._before = desk._held
        return desk

    def __exit__(self, kind, value, trace):
        desk = self._desk
        desk._held = self._before


def tried(desk, action):
    """What the action returns for the desk, which is just as it was behind it."""
    with Trial(desk) as held:
        return action(held)
