"""SETUPs in numbers, for questions over all STANDINGs: LEADs, CREWs, and the MOVEs from one LEAD to another.

Each JOB that comes up has a number of its own, its CODE. A LEAD is all of a STANDING but its jobs without a ROLE: a
tuple (SCRIPT, PLACE, FRONT, MODE, HAND). FRONT is "shell", "nobody", "hand" if HAND is in front, or the CODE of another
job in front; HAND is a CODE, or -1. The jobs without a ROLE are the CREW. A MOVE is a tuple (WORD, ACTOR, WRONG, LEAD,
FREED): the word of an EVENT, who does it ("hand", "front", the CODE of one of the CREW, the number of a KIND, or None),
the WRONG or None, the LEAD behind it, and the CODEs of the jobs that join the CREW. One of the CREW that does it leaves
the CREW, and is among FREED if it comes back.
"""

from frontjobs.events import JOB_WORDS, KIND_WORDS, all_events, behind_event
from frontjobs.standings import FRONT, HAND, JOBS, MODE, PLACE, SCRIPT, find_job

START_LEAD = ("none", 0, "shell", "plain", -1)

# A SCENE is a small STANDING: the job that is asked about, and one that stands for whatever other job is in front.
MINE = 0
OTHER = 1
STARTED = 2
STAND_IN = (0, 0, True, "runs", "none", False)


def codes_in(crew):
    """The ascending list of the CODEs in a CREW that is told by the bits of an integer."""
    found = []
    while crew:
        low = crew & -crew
        found.append(low.bit_length() - 1)
        crew ^= low
    return found


def is_code(front):
    """Whether the FRONT of a LEAD is the CODE of a job that is not HAND."""
    return isinstance(front, int)


def crew_behind(crew, word, actor, freed):
    """The CREW behind a MOVE, as the ascending tuple of its CODEs."""
    if isinstance(actor, int) and word not in KIND_WORDS:
        at = crew.index(actor)
        crew = crew[:at] + crew[at + 1:]
    elif not freed:
        return crew
    return tuple(sorted(crew + freed))


def is_quiet(lead, outcome):
    """Whether this outcome for one of the CREW changes nothing of the LEAD."""
    after = outcome[2]
    front = "shell" if lead[FRONT] == "shell" else OTHER
    return after[HAND] == -1 and after[FRONT] == front and after[MODE] == lead[MODE]


class Coder:
    """The CODEs and MOVEs of one SETUP; what was found out once is kept."""

    def __init__(self, setup):
        self.told = setup
        self.jobs = []
        self.codes = {}
        self.scenes = {}
        self.known_leads = {}
        self.rests = {}
        self.louds = {}

    def code_of(self, job):
        """The CODE of a JOB."""
        if job not in self.codes:
            self.codes[job] = len(self.jobs)
            self.jobs.append(job)
        return self.codes[job]

    def code_in(self, jobs, number):
        """The CODE of the job with this NUMBER in JOBS, or -1 if there is none."""
        job = find_job(jobs, number)
        return -1 if job is None else self.code_of(job)

    def outcomes(self, standing):
        """What comes of a SCENE by one EVENT, but those of the job that stands for another one.

        A list of tuples (EVENT, WRONG, STANDING, CODE of the job that is asked about, CODE of one that is started).
        """
        found = []
        for event in all_events(self.told, standing):
            if event[0] not in JOB_WORDS or event[1] == MINE:
                after, wrong = behind_event(self.told, standing, event)
                jobs = after[JOBS]
                found.append((event, wrong, after, self.code_in(jobs, MINE), self.code_in(jobs, STARTED)))
        return found

    def scene(self, lead, front, code, is_hand):
        """The SCENE at the SCRIPT, PLACE and MODE of a LEAD, with this job (-1 of none) and this FRONT."""
        jobs = []
        if code >= 0:
            jobs.append((MINE, self.jobs[code]))
        if front == OTHER:
            jobs.append((OTHER, STAND_IN))
        return (lead[SCRIPT], lead[PLACE], front, lead[MODE], MINE if is_hand else -1, STARTED, tuple(jobs))

    def outcomes_of_lead(self, lead):
        """The outcomes of the EVENTs of the shell, of HAND, and of looks."""
        front, code = lead[FRONT], lead[HAND]
        if is_code(front):
            front = OTHER
        elif front == "hand":
            front = MINE
        key = (lead[SCRIPT], lead[PLACE], front, lead[MODE], code)
        if key not in self.scenes:
            self.scenes[key] = self.outcomes(self.scene(lead, front, code, code >= 0))
        return self.scenes[key]

    def outcomes_of_one(self, lead, code, is_front):
        """The outcomes of the EVENTs of one job that is not HAND."""
        # It does not matter to a job where the SCRIPT is, nor who is in front if it is neither the job nor the shell.
        front = MINE if is_front else "shell" if lead[FRONT] == "shell" else OTHER
        key = (code, lead[SCRIPT] == "none", front, lead[MODE])
        if key not in self.scenes:
            scene = self.scene(lead, front, code, False)
            self.scenes[key] = [outcome for outcome in self.outcomes(scene) if outcome[0][0] in JOB_WORDS]
        return self.scenes[key]

    def move_of_lead(self, lead, outcome):
        """The MOVE of the shell, of HAND, or of a look."""
        event, wrong, after, mine, started = outcome
        hand, front, freed = -1, after[FRONT], []
        if after[HAND] == MINE:
            hand = mine
        elif after[HAND] == STARTED:
            hand = started
        elif front == MINE:
            front = mine
        elif mine >= 0:
            freed.append(mine)
        if started >= 0 and after[HAND] != STARTED:
            freed.append(started)
        if hand >= 0 and after[FRONT] == MINE:
            front = "hand"
        elif after[FRONT] == OTHER:
            front = lead[FRONT]
        if is_code(lead[FRONT]) and after[FRONT] != OTHER:
            freed.append(lead[FRONT])
        actor = event[1] if event[0] in KIND_WORDS else "hand" if event[0] in JOB_WORDS else None
        return (event[0], actor, wrong, (after[SCRIPT], after[PLACE], front, after[MODE], hand), tuple(freed))

    def move_of_front(self, lead, outcome):
        """The MOVE of the job in front that is not HAND."""
        event, wrong, after, mine, started = outcome
        front, freed = mine, ()
        if after[FRONT] != MINE:
            front, freed = after[FRONT], (mine,)
        return (event[0], "front", wrong, (lead[SCRIPT], lead[PLACE], front, after[MODE], lead[HAND]), freed)

    def move_of_crew(self, lead, code, outcome):
        """The MOVE of one of the CREW."""
        event, wrong, after, mine, started = outcome
        if after[HAND] == MINE:
            return (event[0], code, wrong, after[:HAND] + (mine,), ())
        front, freed = lead[FRONT], []
        if after[FRONT] == MINE:
            front = mine
        elif mine >= 0:
            freed.append(mine)
        if after[FRONT] == "shell":
            front = "shell"
        if is_code(lead[FRONT]) and after[FRONT] != OTHER:
            freed.append(lead[FRONT])
        return (event[0], code, wrong, (lead[SCRIPT], lead[PLACE], front, after[MODE], lead[HAND]), tuple(freed))

    def lead_moves(self, lead):
        """The list of the MOVEs that none of the CREW does."""
        if lead not in self.known_leads:
            found = [self.move_of_lead(lead, outcome) for outcome in self.outcomes_of_lead(lead)]
            if is_code(lead[FRONT]):
                outcomes = self.outcomes_of_one(lead, lead[FRONT], True)
                found.extend([self.move_of_front(lead, outcome) for outcome in outcomes])
            self.known_leads[lead] = found
        return list(self.known_leads[lead])

    def crew_moves(self, lead, code):
        """The list of the MOVEs of one of the CREW."""
        return [self.move_of_crew(lead, code, outcome) for outcome in self.outcomes_of_one(lead, code, False)]

    def loud_moves(self, lead, code):
        """The list of those MOVEs of one of the CREW that at_rest does not tell."""
        key = (lead, code)
        if key not in self.louds:
            outcomes = self.outcomes_of_one(lead, code, False)
            self.louds[key] = [
                self.move_of_crew(lead, code, outcome) for outcome in outcomes if not is_quiet(lead, outcome)]
        return list(self.louds[key])

    def at_rest(self, lead, crew):
        """What a CREW of any many jobs does beside a LEAD without changing it.

        A tuple: the bits of all the CODEs that there are then, the list of those that have other MOVEs too, and the
        list of the WRONGS that come.
        """
        key = (crew, lead[SCRIPT] == "none", lead[FRONT] == "shell", lead[MODE])
        if key not in self.rests:
            self.rests[key] = self.look_at_rest(lead, crew)
        return self.rests[key]

    def look_at_rest(self, lead, crew):
        """What at_rest tells, looked up."""
        louds, wrongs = [], []
        waiting = codes_in(crew)
        while waiting:
            code = waiting.pop()
            for outcome in self.outcomes_of_one(lead, code, False):
                if not is_quiet(lead, outcome):
                    louds.append(code)
                    continue
                event, wrong, after, mine, started = outcome
                if wrong is not None:
                    wrongs.append(wrong)
                if mine >= 0 and not crew >> mine & 1:
                    crew |= 1 << mine
                    waiting.append(mine)
        return crew, sorted(set(louds)), sorted(set(wrongs))
