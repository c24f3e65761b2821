"""The search for RUNs with the fewest jobs, and of those with the fewest EVENTs."""

from frontjobs.coding import START_LEAD, crew_behind
from frontjobs.events import KIND_WORDS, LONE_WORDS, behind_event
from frontjobs.standings import FRONT, HAND, JOBS, START


def role_number(standing, actor, job):
    """The NUMBER of the job that an ACTOR of a MOVE is: this JOB if it is none in front, and not HAND."""
    if actor == "hand":
        return standing[HAND]
    if actor == "front":
        return standing[FRONT]
    for number, other in standing[JOBS]:
        if other == job and number != standing[HAND] and number != standing[FRONT]:
            return number
    return None


class Search:
    """What RUNs lead to, with ever more jobs and EVENTs: as a LEAD and the ascending tuple of the CODEs of its CREW.

    jobs is how many jobs are started in the RUNs that are looked at, found a dict: for each WRONG that was found how
    many jobs and EVENTs there are in the first RUN that ends with it, and its last MOVE.
    """

    def __init__(self, coder):
        self.coder = coder
        self.jobs = 0
        self.found = {}
        # For each number of jobs: how many EVENTs led to a place first, the place ahead of it, and the MOVE there.
        self.reached = [{(START_LEAD, ()): (0, None, None, None)}, {}]
        # The places from which the search goes on, by the number of EVENTs.
        self.levels = {0: [(START_LEAD, ())]}
        self.known = {}

    def advance(self):
        """Look at the next EVENTs: all those with as few EVENTs ahead of them, or one more job."""
        if not self.levels:
            self.add_job()
            return
        level = min(list(self.levels))
        places = self.levels.pop(level)
        for place in places:
            if self.reached[self.jobs][place][0] == level:
                self.go_on(place, level + 1)

    def add_job(self):
        """Go on with one job more."""
        self.jobs += 1
        starts = self.reached[self.jobs]
        for place in starts:
            self.levels.setdefault(starts[place][0], []).append(place)
        self.reached.append({})

    def moves(self, lead, crew):
        """The MOVEs by which the search goes on."""
        found = self.moves_of(lead, None)
        for at, code in enumerate(crew):
            if at == 0 or crew[at - 1] != code:
                found = found + self.moves_of(lead, code)
        return found

    def moves_of(self, lead, code):
        """The MOVEs of one of the CREW, or those of none of it; they are looked up once."""
        key = (lead, code)
        if key not in self.known:
            moves = self.coder.lead_moves(lead) if code is None else self.coder.crew_moves(lead, code)
            # Hearing of a job never lets come what could not come as soon without it.
            self.known[key] = [move for move in moves if move[0] != "hear" and (move[0] != "look" or move[2])]
        return self.known[key]

    def go_on(self, place, many):
        """Look at the EVENTs at one place; this many EVENTs there are then."""
        lead, crew = place
        for word, actor, wrong, behind, freed in self.moves(lead, crew):
            if wrong is not None and wrong not in self.found:
                self.found[wrong] = (self.jobs, many, place, word, actor)
            self.reach((behind, crew_behind(crew, word, actor, freed)), many, place, word, actor)

    def reach(self, place, many, before, word, actor):
        """Keep the MOVE to a place if no other one led there with so few jobs and EVENTs."""
        is_start = word in KIND_WORDS
        reached = self.reached[self.jobs + 1 if is_start else self.jobs]
        if place in reached and reached[place][0] <= many:
            return
        reached[place] = (many, before, word, actor)
        if not is_start:
            self.levels.setdefault(many, []).append(place)

    def run(self, wrong):
        """The RUN that was found for a WRONG."""
        jobs, many, place, word, actor = self.found[wrong]
        steps = [(word, actor)]
        while many > 1:
            many, place, word, actor = self.reached[jobs][place]
            steps.append((word, actor))
            if word in KIND_WORDS:
                jobs -= 1
        return self.acted_out(list(reversed(steps)))

    def acted_out(self, steps):
        """The RUN of these words and ACTORs."""
        standing = START
        events = []
        for word, actor in steps:
            if word in LONE_WORDS:
                event = (word,)
            elif word in KIND_WORDS:
                event = (word, actor)
            else:
                job = self.coder.jobs[actor] if isinstance(actor, int) else None
                event = (word, role_number(standing, actor, job))
            standing = behind_event(self.coder.told, standing, event)[0]
            events.append(event)
        return tuple(events)
