"""STANDINGs: how the shell, the terminal and the jobs of a SETUP stand between two EVENTs."""

from frontjobs.errors import BadStanding, Missing
from frontjobs.setups import SCRIPTS, is_tuple, is_word, need_setup

START = ("none", 0, "shell", "plain", -1, 0, ())

MODES = ("plain", "raw")
STATES = ("runs", "stopped", "ended")

# Where the items of a STANDING stand in it; those of a JOB come next. PLACE is the same in both.
SCRIPT = 0
PLACE = 1
FRONT = 2
MODE = 3
HAND = 4
MADE = 5
JOBS = 6

KIND = 0
OWN = 2
STATE = 3
NOTICE = 4
HELD = 5


def is_whole(thing):
    """Whether anything is an integer; True and False are none."""
    return isinstance(thing, int) and not isinstance(thing, bool)


def is_below(thing, bound):
    """Whether anything is an integer from 0 on that is less than the bound."""
    return is_whole(thing) and 0 <= thing < bound


def is_notice(state, thing):
    """Whether anything is a NOTICE of a job in this STATE."""
    if state == "ended":
        return is_word(thing, ("end",))
    return is_word(thing, ("stop", "none"))


def is_job(setup, thing):
    """Whether anything is a JOB of the SETUP, by its form."""
    if not is_tuple(thing, 6, 6):
        return False
    kinds = setup[0]
    kind, place, own, state, notice, held = thing
    if not is_below(kind, len(kinds)) or not is_below(place, len(kinds[kind]) + 1):
        return False
    if not is_word(state, STATES) or not is_notice(state, notice):
        return False
    return isinstance(own, bool) and isinstance(held, bool)


def are_jobs(setup, made, thing):
    """Whether anything is the JOBS of a STANDING with this MADE."""
    if not isinstance(thing, tuple):
        return False
    least = 0
    for pair in thing:
        if not is_tuple(pair, 2, 2):
            return False
        number, job = pair
        if not is_below(number, made) or number < least or not is_job(setup, job):
            return False
        least = number + 1
    return True


def find_job(jobs, thing):
    """The JOB in JOBS with anything as its NUMBER; None if it is none there."""
    if not is_whole(thing):
        return None
    for number, job in jobs:
        if number == thing:
            return job
    return None


def place_bound(setup, script):
    """What the PLACE at this SCRIPT is less than."""
    if script == "none":
        return 1
    return len(setup[2][SCRIPTS.index(script)])


def may_be_front(job):
    """Whether the NUMBER of this JOB may be FRONT."""
    return job[OWN] and job[STATE] != "ended"


def is_front(jobs, thing):
    """Whether anything is a FRONT beside these JOBS."""
    if is_word(thing, ("shell", "nobody")):
        return True
    job = find_job(jobs, thing)
    return job is not None and may_be_front(job)


def is_hand(script, jobs, thing):
    """Whether anything is a HAND at this SCRIPT beside these JOBS."""
    if is_whole(thing) and thing == -1:
        return True
    return script != "none" and find_job(jobs, thing) is not None


def standing_fault(setup, thing):
    """Where anything is no STANDING, as BadStanding tells it; None if it is one."""
    if not is_tuple(thing, 7, 7):
        return ()
    script, place, front, mode, hand, made, jobs = thing
    if not is_word(script, ("none", *SCRIPTS)):
        return ("script",)
    if not is_below(place, place_bound(setup, script)):
        return ("place",)
    if not is_word(mode, MODES):
        return ("mode",)
    if not is_whole(made) or made < 0:
        return ("made",)
    if not are_jobs(setup, made, jobs):
        return ("jobs",)
    if not is_front(jobs, front):
        return ("front",)
    if not is_hand(script, jobs, hand):
        return ("hand",)
    return None


def is_standing(setup, thing):
    """Whether anything is a STANDING of the SETUP."""
    need_setup(setup)
    return standing_fault(setup, thing) is None


def need_standing(setup, thing):
    """The STANDING itself; BadStanding of anything else."""
    need_setup(setup)
    place = standing_fault(setup, thing)
    if place is not None:
        raise BadStanding(place)
    return thing


def stands_in_front(standing, number, job):
    """Whether the job of a STANDING with this NUMBER IS IN FRONT."""
    if job[OWN]:
        return standing[FRONT] == number
    return standing[FRONT] == "shell"


def stands_meant(standing, number):
    """Whether the job of a STANDING with this NUMBER is MEANT."""
    return standing[HAND] == number and standing[SCRIPT] in ("fore", "front")


def job_of(setup, standing, number):
    """The JOB with this NUMBER; Missing of what is no NUMBER in JOBS."""
    need_standing(setup, standing)
    job = find_job(standing[JOBS], number)
    if job is None:
        raise Missing(number)
    return job


def is_in_front(setup, standing, number):
    """Whether the job with this NUMBER IS IN FRONT; Missing of what is no NUMBER in JOBS."""
    return stands_in_front(standing, number, job_of(setup, standing, number))


def is_meant(setup, standing, number):
    """Whether the job with this NUMBER is MEANT; Missing of what is no NUMBER in JOBS."""
    job_of(setup, standing, number)
    return stands_meant(standing, number)
