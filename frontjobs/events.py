"""EVENTs: what can be done at a STANDING, how it stands behind that, and which WRONG it is."""

from frontjobs.errors import BadEvent
from frontjobs.setups import SCRIPTS, is_tuple, is_word
from frontjobs.standings import FRONT, HAND, HELD, JOBS, KIND, MADE, MODE, NOTICE, OWN, PLACE, SCRIPT, STATE
from frontjobs.standings import find_job, is_below, is_whole, need_standing, place_bound
from frontjobs.standings import stands_in_front, stands_meant

# The words of the EVENTs: alone, beside the number of a KIND, and beside the NUMBER of a job.
LONE_WORDS = ("look", "shell")
KIND_WORDS = ("back", "fore")
JOB_WORDS = ("behind", "break", "front", "hear", "job", "line", "stop")


def put(items, at, thing):
    """A JOB or a STANDING with another item at one place."""
    return items[:at] + (thing,) + items[at + 1:]


def is_event(thing):
    """Whether anything is an EVENT by its form: one of its words, and an integer where it has one."""
    if is_tuple(thing, 1, 1):
        return is_word(thing[0], LONE_WORDS)
    return is_tuple(thing, 2, 2) and is_word(thing[0], KIND_WORDS + JOB_WORDS) and is_whole(thing[1])


def next_step(setup, standing):
    """The STEP that comes next; None if the shell is IDLE."""
    script = standing[SCRIPT]
    if script == "none":
        return None
    return setup[2][SCRIPTS.index(script)][standing[PLACE]]


def next_act(setup, job):
    """The ACT that comes next; None if none is left."""
    acts = setup[0][job[KIND]]
    if job[PLACE] == len(acts):
        return None
    return acts[job[PLACE]]


def can_begin(standing):
    """Whether the shell can begin a SCRIPT."""
    return standing[SCRIPT] == "none" and standing[FRONT] == "shell"


def can_step(setup, standing):
    """Whether the shell is not IDLE and can do its next STEP."""
    step_word = next_step(setup, standing)
    if step_word is None:
        return False
    hand = find_job(standing[JOBS], standing[HAND])
    if hand is None:
        return True
    if step_word == "wait":
        return hand[STATE] == "ended"
    return step_word != "listen" or hand[NOTICE] != "none"


def can_act(setup, standing, number, job):
    """Whether a job that runs can do its next ACT, or END if none is left."""
    if next_act(setup, job) != "read":
        return True
    reads = setup[1][0]
    return reads != "wait" and not stands_in_front(standing, number, job)


def can_job_event(setup, standing, word, number, job):
    """Whether the EVENT of this word and this job can be done."""
    if word in ("front", "behind"):
        return can_begin(standing)
    if word == "hear":
        return standing[SCRIPT] == "none" and job[NOTICE] != "none"
    if job[STATE] != "runs":
        return False
    if word == "job":
        return can_act(setup, standing, number, job)
    if not stands_in_front(standing, number, job):
        return False
    return word != "line" or next_act(setup, job) == "read"


def can_do(setup, standing, thing):
    """Whether anything is an EVENT that can be done at a STANDING."""
    if not is_event(thing):
        return False
    word = thing[0]
    if word == "look":
        return True
    if word == "shell":
        return can_step(setup, standing)
    number = thing[1]
    if word in KIND_WORDS:
        return can_begin(standing) and is_below(number, len(setup[0]))
    job = find_job(standing[JOBS], number)
    return job is not None and can_job_event(setup, standing, word, number, job)


def all_events(setup, standing):
    """The ascending list of the EVENTs that can be done at a STANDING."""
    found = [("look",)]
    if can_step(setup, standing):
        found.append(("shell",))
    if can_begin(standing):
        for word in KIND_WORDS:
            found.extend([(word, kind) for kind in range(len(setup[0]))])
    for number, job in standing[JOBS]:
        for word in JOB_WORDS:
            if can_job_event(setup, standing, word, number, job):
                found.append((word, number))
    return sorted(found)


def with_job(standing, number, job):
    """The STANDING with this JOB at its NUMBER; without that job if it is None."""
    changed = []
    for pair in standing[JOBS]:
        if pair[0] != number:
            changed.append(pair)
        elif job is not None:
            changed.append((number, job))
    return put(standing, JOBS, tuple(changed))


def with_stopped(standing, number, job):
    """The STANDING behind it that the job STOPS."""
    return with_job(standing, number, put(put(job, STATE, "stopped"), NOTICE, "stop"))


def with_ended(standing, number, job):
    """The STANDING behind it that the job ENDS."""
    behind = with_job(standing, number, put(put(job, STATE, "ended"), NOTICE, "end"))
    if standing[FRONT] == number:
        return put(behind, FRONT, "nobody")
    return behind


def with_heard(standing, number, job):
    """The STANDING behind it that the shell hears of the job."""
    if job[STATE] == "ended":
        return with_job(standing, number, None)
    return with_job(standing, number, put(job, NOTICE, "none"))


def with_group_in_front(standing, number, job):
    """The STANDING behind it that the GROUP of the job comes in front."""
    if job[STATE] == "ended":
        return put(standing, FRONT, "nobody")
    return put(standing, FRONT, number if job[OWN] else "shell")


def without_done_script(setup, standing):
    """The STANDING, its SCRIPT OVER if no STEP of it is left."""
    script, place, front, mode, hand, made, jobs = standing
    if place < place_bound(setup, script):
        return standing
    return ("none", 0, front, mode, -1, made, jobs)


def behind_begin(setup, standing, script, number):
    """The STANDING behind it that the shell begins a SCRIPT for the job with this NUMBER."""
    begun = (script, 0, standing[FRONT], standing[MODE], number, standing[MADE], standing[JOBS])
    return without_done_script(setup, begun)


def behind_start(setup, standing, script, kind):
    """The STANDING behind it that the shell starts a job of this KIND."""
    made = standing[MADE]
    job = (kind, 0, False, "runs", "none", False)
    started = put(put(standing, MADE, made + 1), JOBS, standing[JOBS] + ((made, job),))
    return behind_begin(setup, started, script, made)


def with_step_for_hand(standing, step_word, number, job):
    """The STANDING behind one of the first five STEPs, done for HAND, its PLACE as it was."""
    if step_word == "give":
        return with_group_in_front(standing, number, job)
    if step_word in ("wait", "listen"):
        return put(with_heard(standing, number, job), HAND, -1)
    if step_word == "group" and job[STATE] != "ended":
        return with_job(standing, number, put(job, OWN, True))
    if step_word == "go" and job[STATE] == "stopped":
        return with_job(standing, number, put(put(job, STATE, "runs"), NOTICE, "none"))
    return standing


def with_step(setup, standing):
    """The STANDING behind the next STEP, its PLACE as it was."""
    step_word = next_step(setup, standing)
    if step_word == "take":
        return put(standing, FRONT, "shell")
    if step_word == "plain":
        return put(standing, MODE, "plain")
    job = find_job(standing[JOBS], standing[HAND])
    if job is None:
        return standing
    return with_step_for_hand(standing, step_word, standing[HAND], job)


def behind_step(setup, standing):
    """The STANDING behind the next STEP."""
    return without_done_script(setup, put(with_step(setup, standing), PLACE, standing[PLACE] + 1))


def does_act(setup, standing, number, job):
    """Whether a job does its next ACT, and does not STOP instead."""
    reads, writes, takes = setup[1]
    act = next_act(setup, job)
    if act == "read":
        return reads != "stop" or job[HELD]
    if act not in ("front", "write", "raw", "plain"):
        return True
    rule = writes if act == "write" else takes
    return rule == "go" or job[HELD] or stands_in_front(standing, number, job)


def job_behind_act(job, act):
    """The JOB behind an ACT that it does."""
    if act == "again":
        return put(job, PLACE, 0)
    moved = put(job, PLACE, job[PLACE] + 1)
    if act == "group":
        return put(moved, OWN, True)
    if act == "hold":
        return put(moved, HELD, True)
    return moved


def behind_done_act(standing, number, job, act):
    """The pair behind an ACT that a job does: the STANDING, and the WRONG or None."""
    behind = with_job(standing, number, job_behind_act(job, act))
    if act == "front":
        return with_group_in_front(behind, number, job), None
    if act in ("raw", "plain"):
        return put(behind, MODE, act), None
    if act == "write" and standing[MODE] == "raw" and not stands_in_front(standing, number, job):
        return behind, "overwrite"
    return behind, None


def behind_act(setup, standing, number, job):
    """The pair behind the next ACT of a job, or behind its end if none is left."""
    act = next_act(setup, job)
    if act is None:
        return with_ended(standing, number, job), None
    if does_act(setup, standing, number, job):
        return behind_done_act(standing, number, job, act)
    return with_stopped(standing, number, job), "unasked" if stands_meant(standing, number) else None


def behind_key(standing, word, number, job):
    """The pair behind a line that is typed, or a key, for a job that IS IN FRONT."""
    if word == "line":
        behind, wrong = with_job(standing, number, put(job, PLACE, job[PLACE] + 1)), "misread"
    elif word == "stop":
        behind, wrong = with_stopped(standing, number, job), "misstop"
    else:
        behind, wrong = with_ended(standing, number, job), "misbreak"
    return behind, None if stands_meant(standing, number) else wrong


def seen_wrong(setup, standing):
    """The WRONG that a look shows, or None."""
    if standing[SCRIPT] == "none":
        if standing[FRONT] != "shell":
            return "locked"
        return "leftraw" if standing[MODE] == "raw" else None
    hand = find_job(standing[JOBS], standing[HAND])
    if next_step(setup, standing) == "wait" and hand is not None and hand[STATE] == "stopped":
        return "deafwait"
    return None


def behind_event(setup, standing, event):
    """The pair behind an EVENT that can be done: the STANDING, and the WRONG or None."""
    word = event[0]
    if word == "look":
        return standing, seen_wrong(setup, standing)
    if word == "shell":
        return behind_step(setup, standing), None
    number = event[1]
    if word in KIND_WORDS:
        return behind_start(setup, standing, word, number), None
    if word in ("front", "behind"):
        return behind_begin(setup, standing, word, number), None
    job = find_job(standing[JOBS], number)
    if word == "hear":
        return with_heard(standing, number, job), None
    if word == "job":
        return behind_act(setup, standing, number, job)
    return behind_key(standing, word, number, job)


def can_be_done(setup, standing, event):
    """Whether anything is an EVENT that can be done at the STANDING."""
    need_standing(setup, standing)
    return can_do(setup, standing, event)


def step(setup, standing, event):
    """The pair of the STANDING behind the EVENT and its WRONG, or None; BadEvent of what cannot be done."""
    need_standing(setup, standing)
    if not can_do(setup, standing, event):
        raise BadEvent(event)
    return behind_event(setup, standing, event)


def events_at(setup, standing):
    """The ascending list of the EVENTs that can be done at the STANDING."""
    need_standing(setup, standing)
    return all_events(setup, standing)
