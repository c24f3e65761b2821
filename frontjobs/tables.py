"""TABLEs: ROWs that no EVENT leads out of, and the WRONGS that they BAR."""

from frontjobs.coding import START_LEAD, Coder, codes_in
from frontjobs.covering import CoverTree, counts_behind, is_within, moves_at
from frontjobs.errors import BadRow
from frontjobs.rows import ANY_MANY, fits_row
from frontjobs.setups import need_setup, need_wrong
from frontjobs.standings import FRONT, HAND


def fits_table(setup, thing):
    """Whether anything is a TABLE; the SETUP is one."""
    if not isinstance(thing, tuple):
        return False
    last = None
    for row in thing:
        if not fits_row(setup, row) or last is not None and row <= last:
            return False
        last = row
    return True


def coded_row(coder, row):
    """The LEAD of a ROW, and the pair of its CREWs."""
    script, place, front, mode, shapes = row
    hand, anys, counts = -1, 0, {}
    for (job, role), many in shapes:
        code = coder.code_of(job)
        if role in ("hand", "both"):
            hand = code
        if role == "both":
            front = "hand"
        elif role == "front":
            front = code
        elif role == "none" and many == ANY_MANY:
            anys |= 1 << code
        elif role == "none":
            counts[code] = many
    return (script, place, front, mode, hand), (anys, counts)


def coded_table(coder, table):
    """The COVER that a TABLE tells."""
    cover = {}
    for row in table:
        lead, pair = coded_row(coder, row)
        cover.setdefault(lead, []).append(pair)
    return cover


def roles_of(coder, lead):
    """The pairs (SHAPE, MANY) of the jobs with a ROLE."""
    front, hand = lead[FRONT], lead[HAND]
    found = []
    if hand >= 0:
        found.append(((coder.jobs[hand], "both" if front == "hand" else "hand"), 1))
    if front not in ("shell", "nobody", "hand"):
        found.append(((coder.jobs[front], "front"), 1))
    return found


def table_of(coder, cover):
    """The TABLE of a COVER."""
    rows = []
    # Most LEADs have a CREW in common with others.
    known = {}
    for lead in cover:
        for anys, counts in cover[lead]:
            if anys not in known:
                known[anys] = sorted([((coder.jobs[code], "none"), ANY_MANY) for code in codes_in(anys)])
            single = [((coder.jobs[code], "none"), counts[code]) for code in counts]
            shapes = tuple(sorted(known[anys] + single + roles_of(coder, lead)))
            script, place, front, mode, hand = lead
            front = front if front in ("shell", "nobody") else "job"
            rows.append((script, place, front, mode, shapes))
    return tuple(sorted(rows))


def is_covered(cover, lead, anys, counts):
    """Whether the CREWs of a pair are among those of the COVER beside this LEAD."""
    for other_anys, other_counts in cover.get(lead, []):
        if is_within(anys, counts, other_anys, other_counts):
            return True
    return False


def moves_and_wrongs(coder, lead, anys, counts):
    """The lists of the MOVEs at a LEAD that may lead out of a pair of CREWs, and of the WRONGS that come there."""
    rest, louds, wrongs = coder.at_rest(lead, anys)
    # Where any many jobs become only what there are any many of, no quiet MOVE of theirs leads out of the pair.
    codes = louds if rest == anys else codes_in(anys)
    moves = moves_at(coder, lead, [], counts)
    for code in codes:
        moves.extend(coder.loud_moves(lead, code) if rest == anys else coder.crew_moves(lead, code))
    return moves, wrongs + [move[2] for move in moves]


def is_sealed(coder, cover, wrong):
    """Whether no MOVE leads out of the COVER, and none is this WRONG; None of no WRONG."""
    for lead in cover:
        for anys, counts in cover[lead]:
            moves, wrongs = moves_and_wrongs(coder, lead, anys, counts)
            if wrong is not None and wrong in wrongs:
                return False
            for word, actor, told, behind, freed in moves:
                if not is_covered(cover, behind, anys, counts_behind(anys, counts, actor, freed)):
                    return False
    return True


def is_largest(pair, pairs):
    """Whether the CREWs of a pair are among those of none of these pairs but its own; no two of them are the same."""
    anys, counts = pair
    return len([other for other in pairs if is_within(anys, counts, other[0], other[1])]) == 1


def closes(setup, thing, wrong):
    """Whether anything is a TABLE that is CLOSED, and BARS the WRONG if there is one."""
    if not fits_table(setup, thing):
        return False
    coder = Coder(setup)
    cover = coded_table(coder, thing)
    if START_LEAD not in cover:
        return False
    # What comes of fewer jobs is COVERED where what comes of more of them is.
    largest = {lead: [pair for pair in cover[lead] if is_largest(pair, cover[lead])] for lead in cover}
    return is_sealed(coder, largest, wrong)


def is_table(setup, thing):
    """Whether anything is a TABLE of the SETUP."""
    need_setup(setup)
    return fits_table(setup, thing)


def is_closed(setup, thing):
    """Whether anything is a TABLE that is CLOSED."""
    need_setup(setup)
    return closes(setup, thing, None)


def bars(setup, wrong, thing):
    """Whether anything is a TABLE that BARS the WRONG."""
    need_setup(setup)
    return closes(setup, thing, need_wrong(wrong))


def table(setup):
    """A TABLE that is CLOSED and BARS each WRONG that stands in no TRACE of a RUN."""
    coder = Coder(need_setup(setup))
    return table_of(coder, CoverTree(coder).pairs())


def lean(setup, thing):
    """The TABLE without the ROWs that are under another ROW of it."""
    need_setup(setup)
    if not fits_table(setup, thing):
        raise BadRow(())
    coder = Coder(setup)
    cover = coded_table(coder, thing)
    kept = []
    for row in thing:
        lead, pair = coded_row(coder, row)
        if is_largest(pair, cover[lead]):
            kept.append(row)
    return tuple(kept)
