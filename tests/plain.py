"""What the program decides, found in the plainest ways: by trying all EVENTs, STANDING after STANDING, ROW after ROW."""

import heapq

from frontjobs.events import events_at, step
from frontjobs.rows import behind, covers, is_under, row_of
from frontjobs.setups import ACTS, STEPS, WRONGS
from frontjobs.standings import START

STARTS = ("fore", "back")


def reached(setup, most):
    """The STANDINGs to which RUNs with so many jobs lead, and the pair (jobs, EVENTs) of a first RUN to each WRONG."""
    first, known, waiting = {}, {START: (0, 0)}, [((0, 0), 0, START)]
    while waiting:
        many, _, standing = heapq.heappop(waiting)
        if known[standing] < many:
            continue
        for event in events_at(setup, standing):
            after, wrong = step(setup, standing, event)
            more = (many[0] + (event[0] in STARTS), many[1] + 1)
            if more[0] > most:
                continue
            if wrong is not None and more < first.get(wrong, (most + 1,)):
                first[wrong] = more
            if after not in known or more < known[after]:
                known[after] = more
                heapq.heappush(waiting, (more, len(known), after))
    return list(known), first


def key(row):
    return row[:4], [shape for shape, _ in row[4] if shape[1] != "none"]


def closed(setup, table):
    """Whether a TABLE is CLOSED, ROW by ROW, and the words that come of its ROWs."""
    rows = {}
    for row in table:
        rows.setdefault(repr(key(row)), []).append(row)
    words = set()
    sealed = any([covers(setup, row, START) for row in table])
    for row in table:
        for after, word in behind(setup, row):
            words.add(word)
            if not any([is_under(setup, after, other) for other in rows.get(repr(key(after)), [])]):
                sealed = False
    return sealed, words


def widened(row, before):
    """The ROW with any many of what there is more of than in this one ahead of it, which is under it."""
    shapes = dict(before[4])
    return row[:4] + (tuple([(shape, many if shapes.get(shape) == many else 0) for shape, many in row[4]]),)


def table(setup):
    """The TABLE that Karp and Miller tell, without needless ROWs: there is just one."""
    kept, waiting = [], [(row_of(setup, START), None)]
    while waiting:
        way = waiting.pop()
        if any([is_under(setup, way[0], row) for row in kept]):
            continue
        ahead = way
        while ahead[1] is not None:
            ahead = ahead[1]
            if is_under(setup, ahead[0], way[0]):
                way = (widened(way[0], ahead[0]), way[1])
        kept = [row for row in kept if not is_under(setup, row, way[0])] + [way[0]]
        waiting.extend([(after, way) for after, _ in behind(setup, way[0])])
    return tuple(sorted(kept))


def is_hidden(setup, standing, event):
    """Whether an EVENT that can be done, and is no look, is not VISIBLE."""
    if event[0] in ("shell", "hear"):
        return True
    if event[0] != "job":
        return False
    kind, place = dict(standing[6])[event[1]][:2]
    acts = setup[0][kind]
    return place < len(acts) and acts[place] in ("group", "front", "hold", "again")


def watched(setup, log):
    """For each RUN with just these VISIBLE EVENTs, which ends with the last of them, the set of its WRONGS."""
    now = {(START, frozenset())}
    for seen in log:
        waiting, known = list(now), set(now)
        now = set()
        while waiting:
            standing, wrongs = waiting.pop()
            for event in events_at(setup, standing):
                if event[0] == "look":
                    continue
                after, wrong = step(setup, standing, event)
                place = (after, wrongs | {wrong} - {None})
                if not is_hidden(setup, standing, event):
                    if event == seen:
                        now.add(place)
                elif place not in known:
                    known.add(place)
                    waiting.append(place)
    return {wrongs for _, wrongs in now}


def told(setup, log):
    """What fits, may and must are to answer."""
    runs = watched(setup, log)
    if not runs:
        return False, (), ()
    return (True, tuple([wrong for wrong in WRONGS if any([wrong in wrongs for wrongs in runs])]),
            tuple([wrong for wrong in WRONGS if all([wrong in wrongs for wrongs in runs])]))


def chance_run(chance, setup, most, starts=3):
    """A RUN of so many EVENTs, and not more jobs, that chance leads through; it seldom breaks or hears of a job."""
    standing, run = START, []
    while len(run) < most:
        events = [event for event in events_at(setup, standing) if event[0] != "look"]
        if len([event for event in run if event[0] in STARTS]) == starts:
            events = [event for event in events if event[0] not in STARTS]
        events = [event for event in events if event[0] not in ("break", "hear") or chance.random() < 0.2]
        if not events:
            break
        run.append(chance.choice(events))
        standing = step(setup, standing, run[-1])[0]
    return tuple(run)


def chance_setup(chance, acts=3, steps=3):
    """A SETUP of KINDs with so many ACTs and SCRIPTs with so many STEPs at most."""
    kinds = [tuple([chance.choice(ACTS) for _ in range(chance.randint(1, acts))]) for _ in range(chance.randint(1, 3))]
    rules = (chance.choice(("stop", "fail", "wait")), chance.choice(("go", "stop")), chance.choice(("go", "stop")))
    shell = [tuple([chance.choice(STEPS) for _ in range(chance.randint(0, steps))]) for _ in range(4)]
    return (tuple(kinds), rules, tuple(shell))
