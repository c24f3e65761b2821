"""Which WRONGS can come in a SETUP, found with as little work as the question needs."""

from frontjobs.coding import Coder
from frontjobs.covering import CoverTree
from frontjobs.searching import Search

# Most WRONGS that come do so with one job, and that is soon looked through.
FEW_JOBS = 1


class Inquiry:
    """What is known of one SETUP: by a search for RUNs what comes, by a COVER what never does."""

    def __init__(self, setup):
        self.coder = Coder(setup)
        self.search = Search(self.coder)
        self.grown = None

    def tree(self):
        """The tree whose COVER BARS what never comes; it is made once."""
        if self.grown is None:
            self.grown = CoverTree(self.coder)
        return self.grown

    def comes(self, wrong):
        """Whether the WRONG can come."""
        while self.search.jobs <= FEW_JOBS and wrong not in self.search.found:
            self.search.advance()
        return wrong in self.search.found or wrong in self.tree().wrongs

    def first(self, wrong):
        """The first RUN to a WRONG that can come, as the search tells it."""
        while wrong not in self.search.found:
            self.search.advance()
        return self.search.found[wrong]
