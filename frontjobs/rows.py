"""ROWs: many STANDINGs at once, told by how many jobs of each SHAPE there are at most."""

from frontjobs.errors import BadRow
from frontjobs.events import all_events, behind_event
from frontjobs.setups import SCRIPTS, is_tuple, is_word, need_setup
from frontjobs.standings import FRONT, HAND, MODES
from frontjobs.standings import is_below, is_job, is_whole, may_be_front, need_standing, place_bound

ROLES = ("none", "hand", "front", "both")
ANY_MANY = 0

# Where the SHAPES stand in a ROW.
SHAPES = 4


def is_shape(setup, thing):
    """Whether anything is a SHAPE."""
    return is_tuple(thing, 2, 2) and is_job(setup, thing[0]) and is_word(thing[1], ROLES)


def is_many(role, thing):
    """Whether anything is the MANY of a SHAPE with this ROLE."""
    if not is_whole(thing):
        return False
    return thing >= 0 if role == "none" else thing == 1


def are_shapes(setup, thing):
    """Whether anything is an ascending tuple of pairs (SHAPE, MANY), no SHAPE twice."""
    if not isinstance(thing, tuple):
        return False
    last = None
    for pair in thing:
        if not is_tuple(pair, 2, 2):
            return False
        shape, many = pair
        if not is_shape(setup, shape) or not is_many(shape[1], many):
            return False
        if last is not None and shape <= last:
            return False
        last = shape
    return True


def roles_fit(script, front, shapes):
    """Whether the ROLEs in the SHAPES are those of one STANDING with this SCRIPT and FRONT."""
    hands = [job for (job, role), many in shapes if role in ("hand", "both")]
    fronts = [job for (job, role), many in shapes if role in ("front", "both")]
    if len(hands) > (0 if script == "none" else 1):
        return False
    if len(fronts) != (1 if front == "job" else 0):
        return False
    return all([may_be_front(job) for job in fronts])


def fits_row(setup, thing):
    """Whether anything is a ROW; the SETUP is one."""
    if not is_tuple(thing, 5, 5):
        return False
    script, place, front, mode, shapes = thing
    if not is_word(script, ("none", *SCRIPTS)) or not is_below(place, place_bound(setup, script)):
        return False
    if not is_word(front, ("shell", "job", "nobody")) or not is_word(mode, MODES):
        return False
    return are_shapes(setup, shapes) and roles_fit(script, front, shapes)


def need_row(setup, thing):
    """The ROW itself; BadRow of anything else."""
    need_setup(setup)
    if not fits_row(setup, thing):
        raise BadRow(())
    return thing


def role_in(standing, number):
    """The ROLE of the job of a STANDING with this NUMBER."""
    if standing[HAND] == number:
        return "both" if standing[FRONT] == number else "hand"
    return "front" if standing[FRONT] == number else "none"


def row_with(standing, spare):
    """The ROW of the jobs of a STANDING and of the spare ones: a dict of how many there are of each SHAPE."""
    script, place, front, mode, hand, made, jobs = standing
    counts = {shape: spare[shape] for shape in spare}
    for number, job in jobs:
        shape = (job, role_in(standing, number))
        if shape not in counts:
            counts[shape] = 1
        elif counts[shape] != ANY_MANY:
            counts[shape] += 1
    row_front = front if front in ("shell", "nobody") else "job"
    return (script, place, row_front, mode, tuple(sorted(counts.items())))


def sample(row):
    """A STANDING that the ROW COVERS, with one job of each SHAPE."""
    script, place, front, mode, shapes = row
    hand = -1
    jobs = []
    for number, (shape, many) in enumerate(shapes):
        job, role = shape
        jobs.append((number, job))
        if role in ("hand", "both"):
            hand = number
        if role in ("front", "both"):
            front = number
    return (script, place, front, mode, hand, len(jobs), tuple(jobs))


def spare_of(row):
    """How many jobs of each SHAPE the ROW has beside those of its sample."""
    spare = {}
    for shape, many in row[SHAPES]:
        if many == ANY_MANY:
            spare[shape] = ANY_MANY
        elif many > 1:
            spare[shape] = many - 1
    return spare


def has_at_most(many, other):
    """Whether one MANY is at most another one."""
    return other == ANY_MANY or ANY_MANY < many <= other


def lies_under(row, other):
    """Whether each STANDING that a ROW COVERS is COVERED by another one."""
    if row[:SHAPES] != other[:SHAPES]:
        return False
    room = {shape: many for shape, many in other[SHAPES]}
    for shape, many in row[SHAPES]:
        if shape not in room or not has_at_most(many, room[shape]):
            return False
    held = [shape for shape, many in row[SHAPES] if shape[1] != "none"]
    return held == [shape for shape, many in other[SHAPES] if shape[1] != "none"]


def is_row(setup, thing):
    """Whether anything is a ROW of the SETUP."""
    need_setup(setup)
    return fits_row(setup, thing)


def row_of(setup, standing):
    """The ROW with just the jobs of the STANDING."""
    return row_with(need_standing(setup, standing), {})


def covers(setup, row, standing):
    """Whether the ROW COVERS the STANDING."""
    need_row(setup, row)
    return lies_under(row_of(setup, standing), row)


def is_under(setup, row, other):
    """Whether each STANDING that the ROW row COVERS is COVERED by the ROW other."""
    return lies_under(need_row(setup, row), need_row(setup, other))


def behind(setup, row):
    """The ascending tuple of the different pairs (ROW, WORD) that come of the ROW by one EVENT."""
    # One job of each SHAPE will do: jobs of one SHAPE without a ROLE are alike, and an EVENT concerns one of them.
    standing = sample(need_row(setup, row))
    spare = spare_of(row)
    found = set()
    for event in all_events(setup, standing):
        after, wrong = behind_event(setup, standing, event)
        found.add((row_with(after, spare), wrong or ""))
    return tuple(sorted(found))
