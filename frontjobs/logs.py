"""LOGs: what is seen of a RUN, which SETUPs FIT it, and which WRONGS may or must have come then."""

from frontjobs.errors import BadLog, BadQuestion, TooMany
from frontjobs.events import JOB_WORDS, KIND_WORDS, behind_event
from frontjobs.plays import need_play
from frontjobs.setups import WRONGS, is_tuple, is_word, need_setup
from frontjobs.standings import JOBS, START, find_job, is_below, is_whole
from frontjobs.watching import MOST_STARTS, is_hidden, watched

MOST_LOG = 60
MOST_SETUPS = 6


def can_be_visible(setup, thing):
    """Whether anything is an EVENT, by its form, that can be VISIBLE."""
    if not is_tuple(thing, 2, 2):
        return False
    word, number = thing
    if is_word(word, KIND_WORDS):
        return is_below(number, len(setup[0]))
    return is_word(word, JOB_WORDS) and word != "hear" and is_whole(number) and number >= 0


def log_fault(setup, thing):
    """Where anything is no LOG, as BadLog tells it; None if it is one."""
    if not is_tuple(thing, 0, MOST_LOG):
        return ()
    for at, event in enumerate(thing):
        if not can_be_visible(setup, event):
            return (at,)
    return None


def need_few_starts(setup, log):
    """BadLog of what is no LOG, TooMany of one that starts too many jobs."""
    need_log(setup, log)
    if len([event for event in log if event[0] in KIND_WORDS]) > MOST_STARTS:
        raise TooMany(MOST_STARTS)


def wrongs_in(bits):
    """The tuple of the WRONGS that these bits tell, in their order."""
    return tuple([wrong for at, wrong in enumerate(WRONGS) if bits >> at & 1])


def visible(setup, play):
    """The tuple of the EVENTs of the PLAY that are VISIBLE."""
    standing = START
    found = []
    for event in need_play(setup, play):
        job = find_job(standing[JOBS], event[1]) if event[0] in JOB_WORDS else None
        if not is_hidden(setup, event[0], job):
            found.append(event)
        standing = behind_event(setup, standing, event)[0]
    return tuple(found)


def need_log(setup, thing):
    """The LOG itself; BadLog of anything else."""
    need_setup(setup)
    place = log_fault(setup, thing)
    if place is not None:
        raise BadLog(place)
    return thing


def fits(setup, log):
    """Whether the SETUP FITS the LOG."""
    need_few_starts(setup, log)
    return watched(setup, log) is not None


def may(setup, log):
    """The tuple of the WRONGS that MAY have come."""
    need_few_starts(setup, log)
    told = watched(setup, log)
    return () if told is None else wrongs_in(told[0])


def must(setup, log):
    """The tuple of the WRONGS that MUST have come."""
    need_few_starts(setup, log)
    told = watched(setup, log)
    return () if told is None else wrongs_in(told[1])


def fitting(setups, log):
    """The list of the numbers of the SETUPs that FIT the LOG."""
    if not is_tuple(setups, 1, MOST_SETUPS):
        raise BadQuestion("no tuple of 1 to 6")
    for setup in setups:
        need_setup(setup)
    if len([setup for setup in setups if setup[0] != setups[0][0]]) > 0:
        raise BadQuestion("unlike KINDS")
    need_few_starts(setups[0], log)
    return [number for number, setup in enumerate(setups) if watched(setup, log) is not None]
