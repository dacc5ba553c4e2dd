"""Keeping: the states of a desk, edits that can be taken back, and attempts that are open."""

from sevenpoints.answers import Answers
from sevenpoints.errors import NothingToRedo, NothingToUndo, NotKept
from sevenpoints.promises import promise_of


class State:
    """What a desk has at some time: its items, and its promises with single spaces."""

    def __init__(self, shelf, promised):
        self.shelf = shelf
        self.promised = promised


class Level:
    """What has been done within an attempt or a trial, or outside of all: the state ahead of it, and the deeds.

    ahead has the states to go back to, behind those to go on to again, the next one last in both.
    """

    def __init__(self, first):
        self.first = first
        self.ahead = []
        self.behind = []
        self.deeds = []


class Keeping:
    """The state of a desk, and its levels: that outside of all first, that which is worked in last."""

    def __init__(self):
        self.state = State((), ())
        self.levels = (Level(self.state),)
        self.answers = Answers()

    def is_open(self):
        """Whether an attempt or a trial is open."""
        return len(self.levels) > 1

    def answer(self, state, wording):
        """The Promise that a text tells in a state, whether it is kept there, and its witness if it is not."""
        promise = promise_of(state.shelf, wording)
        kept, witness = self.answers.to(promise)
        return promise, kept, witness

    def check(self, state, wording):
        """Raise NotKept for a promise that is not kept in a state; its words with single spaces."""
        promise, kept, witness = self.answer(state, wording)
        if not kept:
            raise NotKept(promise.wording, witness)
        return promise.wording

    def make(self, state, deeds):
        """Make an edit: go to a state, by these deeds."""
        if not self.is_open():
            for wording in state.promised:
                self.check(state, wording)
        level = self.levels[-1]
        level.ahead.append(self.state)
        level.behind = []
        level.deeds.extend(deeds)
        self.state = state

    def undo(self):
        """Take back the last edit of the level that has not been taken back."""
        level = self.levels[-1]
        if not level.ahead:
            raise NothingToUndo()
        level.behind.append(self.state)
        self.state = level.ahead.pop()
        level.deeds.append("undo")

    def redo(self):
        """Do again what was taken back last."""
        level = self.levels[-1]
        if not level.behind:
            raise NothingToRedo()
        level.ahead.append(self.state)
        self.state = level.behind.pop()
        level.deeds.append("redo")

    def begin(self):
        """Open an attempt or a trial."""
        self.levels = self.levels + (Level(self.state),)

    def attempted(self):
        """The deeds that tell the attempt that is open last, as a whole."""
        return ["begin"] + self.levels[-1].deeds + ["close"]

    def close(self):
        """Close the attempt that is open last, which is an edit of what stands around it."""
        state = self.state
        deeds = self.attempted()
        self.state = self.levels[-1].first
        self.levels = self.levels[:-1]
        self.make(state, deeds)

    def leave_all(self):
        """Let all attempts that are open have done nothing."""
        if self.is_open():
            self.state = self.levels[1].first
            self.levels = self.levels[:1]
