"""SETUPs: what the jobs do, the rules of the terminal, and the scripts of the shell."""

from frontjobs.errors import BadSetup, BadWrong

ACTS = ("group", "front", "read", "write", "raw", "plain", "hold", "again")
STEPS = ("group", "give", "go", "wait", "listen", "take", "plain")
SCRIPTS = ("fore", "back", "front", "behind")
WRONGS = ("misread", "misstop", "misbreak", "unasked", "overwrite", "locked", "leftraw", "deafwait")

READING = ("stop", "fail", "wait")
LETTING = ("go", "stop")

MOST_KINDS = 3
MOST_ACTS = 5
MOST_STEPS = 6


def is_word(thing, words):
    """Whether anything is one of these words."""
    # Only strings are compared: == of another object may answer anything, or fail.
    return isinstance(thing, str) and thing in words


def is_tuple(thing, least, most):
    """Whether anything is a tuple with so many items."""
    return isinstance(thing, tuple) and least <= len(thing) <= most


def is_kind(thing):
    """Whether anything is a KIND."""
    return is_tuple(thing, 1, MOST_ACTS) and all([is_word(act, ACTS) for act in thing])


def is_script(thing):
    """Whether anything is a SCRIPT."""
    return is_tuple(thing, 0, MOST_STEPS) and all([is_word(step, STEPS) for step in thing])


def are_rules(thing):
    """Whether anything is RULES."""
    if not is_tuple(thing, 3, 3):
        return False
    reads, writes, takes = thing
    return is_word(reads, READING) and is_word(writes, LETTING) and is_word(takes, LETTING)


def kinds_fault(thing):
    """Where anything is no KINDS, as BadSetup tells it; None if it is."""
    if not is_tuple(thing, 1, MOST_KINDS):
        return ("kinds",)
    for number, kind in enumerate(thing):
        if not is_kind(kind):
            return ("kinds", number)
    return None


def shell_fault(thing):
    """Where anything is no SHELL, as BadSetup tells it; None if it is one."""
    if not is_tuple(thing, len(SCRIPTS), len(SCRIPTS)):
        return ("shell",)
    for number, script in enumerate(thing):
        if not is_script(script):
            return ("shell", number)
    return None


def setup_fault(thing):
    """Where anything is no SETUP, as BadSetup tells it; None if it is one."""
    if not is_tuple(thing, 3, 3):
        return ()
    kinds, rules, shell = thing
    fault = kinds_fault(kinds)
    if fault is not None:
        return fault
    if not are_rules(rules):
        return ("rules",)
    return shell_fault(shell)


def is_setup(thing):
    """Whether anything is a SETUP."""
    return setup_fault(thing) is None


def need_setup(thing):
    """The SETUP itself; BadSetup of anything else."""
    place = setup_fault(thing)
    if place is not None:
        raise BadSetup(place)
    return thing


def need_wrong(thing):
    """The WRONG itself; BadWrong of anything else."""
    if not is_word(thing, WRONGS):
        raise BadWrong(thing)
    return thing
