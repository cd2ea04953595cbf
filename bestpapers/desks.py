"""The desk: problems that are put together, solved and changed by lines of text."""

from bestpapers.commands import done, kept_in, problem_of
from bestpapers.errors import BestError
from bestpapers.moments import Moment

REFUSED = "refused"


class Desk:
    """What lines have made so far, and a journal of all lines with their replies."""

    def __init__(self):
        self.moment = Moment((None, {}), (), (), None)
        self.lines = []
        self.replies = []

    def do(self, line):
        """Do one command and return its reply."""
        try:
            moment, reply = done(self.moment, line)
        except BestError:
            self._note(line, REFUSED)
            raise
        self.moment = moment
        self._note(line, reply)
        return reply

    def try_to_do(self, line):
        """Do one command and return its reply, "refused" if it raises an error."""
        try:
            return self.do(line)
        except BestError:
            return REFUSED

    def run(self, text):
        """Do the commands of a text, line by line, and return the list of the replies."""
        return [self.try_to_do(line) for line in text.split("\n")]

    def present(self):
        """Return the present problem."""
        return problem_of(self.moment)

    def kept_paper(self, name):
        """Return the paper that is kept under a name."""
        return kept_in(self.moment, name)

    @property
    def answer(self):
        """The last answer, or None."""
        return self.moment.last

    @property
    def kept(self):
        """The names of the kept papers, in ascending order."""
        _, papers = self.moment.parts
        return tuple(sorted([str(name) for name in papers]))

    @property
    def journal(self):
        """The lines that were passed as commands so far, each with its reply."""
        return tuple(zip(self.lines, self.replies))

    def __iter__(self):
        return iter(self.lines)

    def _note(self, line, reply):
        """Put a line with its reply into the journal."""
        self.lines.append(line)
        self.replies.append(reply)
