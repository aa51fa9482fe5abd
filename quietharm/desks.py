"""Desks: deeds done one after the other, taken back, and tried."""

from quietharm.alike import word_of, words_in
from quietharm.deeds import behind, is_deed, is_possible, possible_words, states_along
from quietharm.errors import BadDeed, BadHistory, NothingDone, NotNow
from quietharm.keeps import check_keep, check_plan
from quietharm.states import check_block, first_state


class Mark:
    """What a desk was when a trial began: its rows, how many of these stayed, and the mark of the trial around it."""

    def __init__(self, rows, fixed, before):
        self.rows = rows
        self.fixed = fixed
        self.before = before


class Trial:
    """A with-block at whose end everything on a desk is as at its beginning."""

    def __init__(self, desk):
        self.desk = desk

    def __enter__(self):
        desk = self.desk
        desk.mark = Mark(desk.rows, desk.fixed, desk.mark)
        desk.rows = list(desk.rows)
        desk.fixed = len(desk.rows)
        return desk

    def __exit__(self, *told):
        self.desk.rows = self.desk.mark.rows
        self.desk.fixed = self.desk.mark.fixed
        self.desk.mark = self.desk.mark.before


class Desk:
    """A keep with a plan, on which deeds are done and taken back.

    Its rows are pairs of a deed and the state behind it; the first one, of no deed, stays, as do in a trial all that
    were there at its beginning.
    """

    def __init__(self, keep, plan):
        check_keep(keep)
        check_plan(keep, plan)
        self.keep = keep
        self.plan = plan
        self.rows = [(None, first_state(keep, plan))]
        self.fixed = 1
        self.mark = None

    @property
    def state(self):
        """The state now."""
        return self.rows[-1][1]

    @property
    def journal(self):
        """The list of all deeds so far."""
        return [deed for deed, later in self.rows[1:]]

    def do(self, *deed):
        """Do the deed with these items, and return the words of the looks at all blocks then."""
        if not is_deed(self.keep, deed):
            raise BadDeed("this is not a deed of the keep")
        if not is_possible(self.keep, self.state, deed):
            raise NotNow("this deed is not possible in the state")
        later = behind(self.plan, self.state, deed)
        self.rows.append((deed, later))
        return words_in(self.plan, later)

    def look(self, block):
        """The word of a look at the block."""
        check_block(self.keep, block)
        return word_of(self.plan, self.state, block)

    def writes(self):
        """All tuples of words with which a write is possible now, in order."""
        return possible_words(self.keep, self.state)

    def undo(self):
        """Take back the last deed, and return it."""
        if len(self.rows) == self.fixed:
            raise NothingDone("there is no deed to be taken back")
        deed, later = self.rows.pop()
        return deed

    def branch(self):
        """An independent desk in which everything is the same, and all deeds can be undone."""
        desk = Desk(self.keep, self.plan)
        desk.rows = list(self.rows)
        return desk

    def trial(self):
        """A trial for a with-block, which gives this desk."""
        return Trial(self)

    def attempt(self, work):
        """Call the function with this desk in a trial, and return what it returns."""
        with self.trial() as desk:
            return work(desk)

    def tried(self, history):
        """What do returns for each deed of a list or tuple, done in a trial."""
        if not isinstance(history, (list, tuple)):
            raise BadHistory(None)
        states = states_along(self.keep, self.plan, self.state, history)
        if len(states) <= len(history):
            raise BadHistory(len(states) - 1)
        return [words_in(self.plan, state) for state in states[1:]]
