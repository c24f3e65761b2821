"""Desks: a World that is asked and told by lines of text."""

from frontjobs.deciding import fewest, wrongs_of
from frontjobs.errors import BadQuestion, JobError, MissError, TooMany
from frontjobs.events import events_at
from frontjobs.live import World
from frontjobs.mends import quietest
from frontjobs.standings import FRONT, HAND, JOBS, MODE, PLACE, SCRIPT
from frontjobs.texts import play_text, read_number, read_play, read_setup

BAD_LINE = "bad line"


def or_none(text):
    """The text, or the word for none if it is empty."""
    return text or "none"


def wrongs_text(wrongs):
    """The text of WRONGS, each of which may be None."""
    return ", ".join([wrong or "-" for wrong in wrongs])


def job_text(number, job):
    """The text of one job."""
    kind, place, own, state, notice, held = job
    group = "own" if own else "shared"
    hold = "held" if held else "free"
    return f"{number} {kind} {place} {group} {state} {notice} {hold}"


def tell_trace(world):
    """The WRONGS of the EVENTs so far."""
    return or_none(wrongs_text(world.trace))


def tell_events(world):
    """The EVENTs so far."""
    return or_none(play_text(world.play))


def tell_shell(world):
    """How the shell and the terminal stand."""
    standing = world.standing
    hand = "-" if standing[HAND] == -1 else standing[HAND]
    return f"{standing[SCRIPT]} {standing[PLACE]} {standing[FRONT]} {standing[MODE]} {hand}"


def tell_jobs(world):
    """How the jobs stand."""
    return or_none("; ".join([job_text(number, job) for number, job in world.standing[JOBS]]))


def tell_can(world):
    """What can be done."""
    return play_text(tuple(events_at(world.setup, world.standing)))


def tell_wrongs(world):
    """Which WRONGS can come."""
    return or_none(wrongs_text(wrongs_of(world.setup)))


def tell_quietest(world):
    """How many WRONGS can come with the quietest SHELL."""
    return str(quietest(world.setup)[0])


def do_events(world, text):
    """Do the EVENTs of a text, all or none."""
    events = read_play(text)
    if not events:
        raise BadQuestion("no EVENT")
    # What cannot be done is refused here, ahead of the first EVENT that is done.
    ahead = world.copy()
    for event in events:
        ahead.do(event)
    return wrongs_text([world.do(event) for event in events])


def take_back(world, text):
    """Take so many EVENTs back as the text tells."""
    world.back(many=read_number(text))
    return "done"


def tell_fewest(world, text):
    """How many jobs and EVENTs there are in the first RUN to a WRONG."""
    least = fewest(world.setup, text)
    return "never" if least is None else f"{least[0]} {least[1]}"


# The lines of one word, and those of a word and something behind it.
LINES = {
    "trace": tell_trace, "events": tell_events, "shell": tell_shell, "jobs": tell_jobs, "can": tell_can,
    "wrongs": tell_wrongs, "quietest": tell_quietest,
}
LONG_LINES = {"do": do_events, "back": take_back, "fewest": tell_fewest}


def answer(world, line):
    """What is said to a line; BadQuestion, or another error, of what is none."""
    word, space, rest = line.partition(" ")
    if line in LINES:
        tell = LINES[line]
        return tell(world)
    if not space or word not in LONG_LINES:
        raise BadQuestion("no such line")
    act = LONG_LINES[word]
    return act(world, rest)


class Desk:
    """A desk with a World by the SETUP of a text."""

    def __init__(self, text):
        self.lived = World(read_setup(text))

    @property
    def world(self):
        """The World itself."""
        return self.lived

    def say(self, line):
        """What is said to a line; "bad line", and nothing is changed, if it is none or cannot be done."""
        if not isinstance(line, str):
            return BAD_LINE
        try:
            return answer(self.lived, line)
        except (JobError, MissError, TooMany):
            return BAD_LINE
