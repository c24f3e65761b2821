"""Worlds: SETUPs that live on, EVENT by EVENT, and can be taken back."""

from frontjobs.errors import BadEvent, Missing
from frontjobs.events import behind_event, can_do
from frontjobs.plays import MOST_PLAY
from frontjobs.setups import need_setup
from frontjobs.standings import START, is_whole


class World:
    """A SETUP, and the PLAY that it is behind; at START at first."""

    def __init__(self, setup):
        self.base = need_setup(setup)
        # For each EVENT so far: the EVENT, its WRONG or None, and the STANDING behind it.
        self.steps = ()

    @property
    def setup(self):
        """The SETUP."""
        return self.base

    @property
    def standing(self):
        """The STANDING now."""
        return self.steps[-1][2] if self.steps else START

    @property
    def play(self):
        """The EVENTs so far."""
        return tuple([event for event, wrong, standing in self.steps])

    @property
    def trace(self):
        """The TRACE of the EVENTs so far."""
        return tuple([wrong for event, wrong, standing in self.steps])

    def do(self, event):
        """Do an EVENT; its WRONG, or None; BadEvent of what cannot be done, and of one more than a PLAY has."""
        if len(self.steps) == MOST_PLAY or not can_do(self.base, self.standing, event):
            raise BadEvent(event)
        standing, wrong = behind_event(self.base, self.standing, event)
        self.steps = self.steps + ((event, wrong, standing),)
        return wrong

    def __call__(self):
        """Do the next STEP of the shell."""
        return self.do(("shell",))

    def back(self, *, many=1):
        """Take so many EVENTs back; Missing of what is no integer from 1 to the number of EVENTs."""
        if not is_whole(many) or not 1 <= many <= len(self.steps):
            raise Missing(many)
        self.steps = self.steps[:len(self.steps) - many]

    def __len__(self):
        return len(self.steps)

    def __contains__(self, event):
        return can_do(self.base, self.standing, event)

    def __eq__(self, other):
        return isinstance(other, World) and self.base == other.base and self.standing == other.standing

    def copy(self):
        """Another World that stands as this one, and goes on by itself."""
        other = World(self.base)
        other.steps = self.steps
        return other

    def trial(self):
        """A manager for one with statement: behind its block the World is as it was ahead of it."""
        return Trial(self)


class Trial:
    """What a with statement over a trial of a World does."""

    def __init__(self, tried):
        self.tried = tried
        self.kept = ()

    def __enter__(self):
        self.kept = self.tried.steps
        return self.tried

    def __exit__(self, kind, value, trace):
        self.tried.steps = self.kept


def under(manager, deed):
    """What the deed returns, called with what the manager gives, within a with statement over it."""
    with manager as given:
        return deed(given)
