"""PLAYs: RUNs of at most 300 EVENTs from START on, and the WRONGS that their EVENTs are."""

from frontjobs.errors import BadPlay
from frontjobs.events import behind_event, can_do
from frontjobs.setups import is_tuple, need_setup
from frontjobs.standings import START

MOST_PLAY = 300


def follow(setup, events):
    """How far the EVENTs can be done from START on: the STANDING there, and the WRONG or None of each one done."""
    standing = START
    wrongs = []
    for event in events:
        if not can_do(setup, standing, event):
            break
        standing, wrong = behind_event(setup, standing, event)
        wrongs.append(wrong)
    return standing, tuple(wrongs)


def play_fault(setup, thing):
    """Where anything is no PLAY, as BadPlay tells it; None if it is one."""
    if not is_tuple(thing, 0, MOST_PLAY):
        return ()
    done = len(follow(setup, thing)[1])
    if done < len(thing):
        return (done,)
    return None


def need_play(setup, thing):
    """The PLAY itself; BadPlay of anything else."""
    need_setup(setup)
    place = play_fault(setup, thing)
    if place is not None:
        raise BadPlay(place)
    return thing


def is_play(setup, thing):
    """Whether anything is a PLAY of the SETUP."""
    need_setup(setup)
    return play_fault(setup, thing) is None


def trace(setup, play):
    """The TRACE of the PLAY: the WRONG, or None, that each of its EVENTs is."""
    return follow(setup, need_play(setup, play))[1]


def last_standing(setup, play):
    """The STANDING behind the PLAY."""
    return follow(setup, need_play(setup, play))[0]
