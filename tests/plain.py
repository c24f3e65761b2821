"""What the program decides, found in the plainest ways: by trying all EVENTs, STANDING after STANDING, ROW after ROW."""

import heapq

from frontjobs.events import events_at, step
from frontjobs.rows import behind, covers, is_under
from frontjobs.standings import START

STARTS = ("fore", "back")


def reached(setup, most):
    """The STANDINGs to which RUNs with so many jobs lead, and the pair (jobs, EVENTs) of a first RUN to each WRONG."""
    first, known, waiting = {}, {START: (0, 0)}, [((0, 0), 0, START)]
    while waiting:
        many, _, standing = heapq.heappop(waiting)
        if known[standing] < many:
            continue
        for event in events_at(setup, standing):
            after, wrong = step(setup, standing, event)
            more = (many[0] + (event[0] in STARTS), many[1] + 1)
            if more[0] > most:
                continue
            if wrong is not None and more < first.get(wrong, (most + 1,)):
                first[wrong] = more
            if after not in known or more < known[after]:
                known[after] = more
                heapq.heappush(waiting, (more, len(known), after))
    return list(known), first


def key(row):
    return row[:4], [shape for shape, _ in row[4] if shape[1] != "none"]


def closed(setup, table):
    """Whether a TABLE is CLOSED, ROW by ROW, and the words that come of its ROWs."""
    rows = {}
    for row in table:
        rows.setdefault(repr(key(row)), []).append(row)
    words = set()
    sealed = any([covers(setup, row, START) for row in table])
    for row in table:
        for after, word in behind(setup, row):
            words.add(word)
            if not any([is_under(setup, after, other) for other in rows.get(repr(key(after)), [])]):
                sealed = False
    return sealed, words
