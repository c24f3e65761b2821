"""What RUNs there are with just the VISIBLE EVENTs of a LOG, and which WRONGS stand in their TRACEs."""

from frontjobs.coding import START_LEAD, Coder, crew_behind
from frontjobs.events import KIND_WORDS, LONE_WORDS, next_act
from frontjobs.setups import WRONGS
from frontjobs.standings import FRONT, HAND, KIND, STATE

HIDDEN_ACTS = ("group", "front", "hold", "again")

# How many jobs a LOG may start: so many KINDs there can be.
MOST_STARTS = 3


def is_hidden(setup, word, job):
    """Whether an EVENT of this word, which this JOB does if it is one of a job, is not VISIBLE."""
    if word == "job":
        return next_act(setup, job) in HIDDEN_ACTS
    return word == "hear" or word in LONE_WORDS


def numbered(log):
    """The EVENTs of a LOG, those that start a job with the NUMBER of the job instead of that of its KIND."""
    found = []
    starts = 0
    for event in log:
        if event[0] in KIND_WORDS:
            event = (event[0], starts)
            starts += 1
        found.append(event)
    return found


class Watch:
    """The places to which the RUNs lead whose VISIBLE EVENTs are those that were followed so far.

    A place is a LEAD and the ascending tuple of the CODEs of its CREW, and has a number; places is a dict: for each
    number the bits of the WRONGS that may, and of those that must have come on the way there. Each job that the LOG
    starts has a KIND of its own here, so that the KIND of a JOB tells its NUMBER.
    """

    def __init__(self, setup, log):
        kinds, rules, shell = setup
        self.coder = Coder((tuple([kinds[event[1]] for event in log if event[0] in KIND_WORDS]), rules, shell))
        self.known = {}
        self.calmed = {}
        self.ways = {}
        self.numbers = {}
        self.found = []
        self.places = {self.number_of((START_LEAD, ())): (0, 0)}

    def calm_job(self, job):
        """The JOB behind the ACTs that it does at once, as they concern nothing but the job itself."""
        if job[STATE] == "ended":
            return (job[KIND], 0, False, "ended", "end", False)
        passed = []
        while job[STATE] == "runs" and job not in passed:
            passed.append(job)
            act = next_act(self.coder.told, job)
            kind, place, own, state, notice, held = job
            if act == "again":
                job = (kind, 0, own, state, notice, held)
            elif act == "hold" or act == "group" and own:
                job = (kind, place + 1, own, state, notice, held or act == "hold")
        return job

    def calm(self, code):
        """The CODE behind those ACTs; what is no CODE stays."""
        if not isinstance(code, int) or code < 0:
            return code
        if code not in self.calmed:
            self.calmed[code] = self.coder.code_of(self.calm_job(self.coder.jobs[code]))
        return self.calmed[code]

    def event_of(self, lead, move):
        """The EVENT of a MOVE; None if it is hidden."""
        word, actor = move[0], move[1]
        if word in KIND_WORDS:
            return (word, actor)
        job = None
        if actor is not None:
            code = lead[HAND] if actor == "hand" else lead[FRONT] if actor == "front" else actor
            job = self.coder.jobs[code]
        if is_hidden(self.coder.told, word, job):
            return None
        return (word, job[KIND])

    def moves_by_event(self, lead, code):
        """A dict of the MOVEs of one of the CREW, or of those of none of it; they are looked up once."""
        key = (lead, code)
        if key not in self.known:
            found = {}
            for move in self.coder.lead_moves(lead) if code is None else self.coder.crew_moves(lead, code):
                word, actor, wrong, behind, freed = move
                # By a look nothing changes; and what can be done behind hearing of a job can be done without it.
                if word not in ("look", "hear"):
                    script, place, front, mode, hand = behind
                    calm_lead = (script, place, self.calm(front), mode, self.calm(hand))
                    bit = 0 if wrong is None else 1 << WRONGS.index(wrong)
                    calm_move = (word, actor, bit, calm_lead, tuple([self.calm(other) for other in freed]))
                    found.setdefault(self.event_of(lead, move), []).append(calm_move)
            self.known[key] = found
        return self.known[key]

    def number_of(self, place):
        """The number of a place."""
        if place not in self.numbers:
            self.numbers[place] = len(self.found)
            self.found.append(place)
        return self.numbers[place]

    def look_behind(self, number, event):
        """What behind tells, looked up."""
        lead, crew = self.found[number]
        moves = list(self.moves_by_event(lead, None).get(event, []))
        for code in crew:
            moves.extend(self.moves_by_event(lead, code).get(event, []))
        return [(self.number_of((after, crew_behind(crew, word, actor, freed))), bit)
                for word, actor, bit, after, freed in moves]

    def behind(self, number, event):
        """The places behind one place by this EVENT, or by a hidden one if it is None, each with its WRONG as a bit."""
        # The same places and EVENTs come again and again in a long LOG.
        ways = self.ways.setdefault(event, {})
        if number not in ways:
            ways[number] = self.look_behind(number, event)
        return list(ways[number])

    def spread(self):
        """Go on by hidden EVENTs as far as these lead."""
        waiting = list(self.places)
        while waiting:
            place = waiting.pop()
            may, must = self.places[place]
            for after, bit in self.behind(place, None):
                known = self.places.get(after, (0, -1))
                told = (known[0] | may | bit, known[1] & (must | bit))
                if told != known:
                    self.places[after] = told
                    waiting.append(after)

    def follow(self, event):
        """Go on by one EVENT that is seen."""
        found = {}
        for place in self.places:
            may, must = self.places[place]
            for after, bit in self.behind(place, event):
                known = found.get(after, (0, -1))
                found[after] = (known[0] | may | bit, known[1] & (must | bit))
        self.places = found

    def verdict(self):
        """The bits of the WRONGS that may, and of those that must have come; None if no RUN has these EVENTs."""
        if not self.places:
            return None
        all_may, all_must = 0, -1
        for may, must in self.places.values():
            all_may |= may
            all_must &= must
        return all_may, all_must


def watched(setup, log):
    """What is told of a LOG: the bits of the WRONGS that may and that must have come, or None if it does not FIT."""
    watch = Watch(setup, log)
    for event in numbered(log):
        watch.spread()
        watch.follow(event)
    return watch.verdict()
