"""A desk: a web whose ties are put in and taken out, one by one and back again."""

from closedrings.asking import ask
from closedrings.errors import NothingBack
from closedrings.webs import lesser_first, made_web, with_tie, without_tie


class Desk:
    """A web that changes, and the deeds that can be taken back."""

    def __init__(self, many):
        self.now = made_web(many, ())
        self.deeds = []

    def web(self):
        """The web as it is now."""
        return self.now

    def put(self, a, b):
        """Put in a tie."""
        self.now = with_tie(self.now, a, b)
        self.deeds.append(lesser_first(a, b))

    def take(self, a, b):
        """Take out a tie."""
        self.now = without_tie(self.now, a, b)
        self.deeds.append(lesser_first(a, b))

    def back(self):
        """Take back the last deed that is not taken back."""
        if not self.deeds:
            raise NothingBack()
        tie = self.deeds.pop()
        a, b = tie
        # Behind a put its tie is there, behind a take it is not; all later deeds are taken back.
        if tie in self.now[1]:
            self.now = without_tie(self.now, a, b)
        else:
            self.now = with_tie(self.now, a, b)

    def ring(self, held):
        """A whole ring that holds the held ties, or a paper that there is none."""
        # No ring is kept: of many places one is told only as long as the closing has all ties.
        return ask(self.now, held)
