"""Trials: what is done on a desk only if nothing goes wrong, or only to see what would come of it."""

from bestpapers.desks import Desk


class Trial:
    """A block behind which a desk is what it was before, if the block ends by an error."""

    def __init__(self, desk):
        self.desk = desk
        self.moment = None
        self.lines = []
        self.replies = []

    def __enter__(self):
        self.moment = self.desk.moment
        # The desk goes on to write into its own lists.
        self.lines = list(self.desk.lines)
        self.replies = list(self.desk.replies)
        return self.desk

    def __exit__(self, kind, value, trace):
        desk = self.desk
        if kind is not None:
            desk.moment = self.moment
            desk.lines = self.lines
            desk.replies = self.replies


def run_whole(desk, text):
    """Do the commands of a text and return the list of the replies; all of them, or none."""
    with Trial(desk) as inside:
        replies = [inside.do(line) for line in text.split("\n")]
    return replies


def try_out(desk, text):
    """Return the replies to the commands of a text, without doing them on the desk itself."""
    other = Desk()
    other.moment = desk.moment
    return other.run(text)


def replayed(journal):
    """Return a new desk on which the lines of a journal were done, and where replies differ."""
    desk = Desk()
    replies = [desk.try_to_do(line) for line, _ in journal]
    pairs = list(zip(replies, journal))
    return (desk, tuple([at for at, (reply, entry) in enumerate(pairs) if reply != entry[1]]))
