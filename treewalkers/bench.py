"""A bench, which keeps a web while it is changed."""

from treewalkers.errors import NoDeed, TooMany
from treewalkers.means import web_mean
from treewalkers.streams import hindrance
from treewalkers.ties import widened, with_tie, without
from treewalkers.webs import MOST_PLACES, check_place

FIRST_WEB = (2, ((0, 1),))


class Bench:
    """A web that is kept, and the webs it was ahead of each deed that stands."""

    def __init__(self):
        self.kept = FIRST_WEB
        self.former = []

    def change(self, following):
        self.former.append(self.kept)
        self.kept = following

    def place(self, a):
        """Puts a place with the next number, tied to a."""
        check_place(self.kept, a)
        many, ties = self.kept
        if many == MOST_PLACES:
            raise TooMany("there is no room for one more place")
        self.change(widened(many + 1, ties, (a, many)))

    def tie(self, tie):
        """Puts a tie."""
        self.change(with_tie(self.kept, tie))

    def cut(self, tie):
        """Takes a tie away."""
        self.change(without(self.kept, tie))

    def undo(self):
        """Brings back the web as it was ahead of the last deed that stands."""
        if not self.former:
            raise NoDeed("there is no deed to undo")
        self.kept = self.former.pop()

    def web(self):
        """The kept web."""
        return self.kept

    def mean(self, a, b):
        """The mean steps from a to b."""
        return web_mean(self.kept, a, b)

    def hindrance(self, a, b):
        """The hindrance between two unlike places."""
        return hindrance(self.kept, a, b)
