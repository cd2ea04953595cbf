"""Moments: what a desk has at one time."""


class Moment:
    """The parts of a desk, those before and behind them, and the last answer; it never changes.

    Parts are a pair: the present problem, None if there is no variable, and the kept
    papers, a dict that nothing changes. past holds the parts to which one can go back by
    undo, the next one last, and future those to which one can go on by redo.
    """

    def __init__(self, parts, past, future, last):
        self.parts = parts
        self.past = past
        self.future = future
        self.last = last

    def changed(self, problem, papers):
        """Return the moment behind a change."""
        return Moment((problem, papers), self.past + (self.parts,), (), self.last)

    def undone(self):
        """Return the moment behind an undo, where there is something to undo."""
        return Moment(self.past[-1], self.past[:-1], self.future + (self.parts,), self.last)

    def redone(self):
        """Return the moment behind a redo, where there is something to redo."""
        return Moment(self.future[-1], self.past + (self.parts,), self.future[:-1], self.last)

    def solved(self, answer):
        """Return the moment with another last answer."""
        return Moment(self.parts, self.past, self.future, answer)
