import copy
import unittest

from cases import STATES, job, setup_of, shell_of, standing
from frontjobs.errors import BadRow, BadSetup, BadStanding
from frontjobs.events import events_at, step
from frontjobs.rows import behind, covers, is_row, is_under, row_of
from frontjobs.standings import START, is_standing
from samples import KINDS, NEITHER, RULES, SETUP, SHELL, THINGS, put

ROLES = ("none", "hand", "front", "both")
ANY = 0
PLACE, FRONT, MODE, SHAPES = 1, 2, 3, 4

READER = setup_of(("read",))
WORKED_SHELL = (("group", "give", "listen", "take"), ("group",), ("give", "go", "listen", "take"), ("go",))
WORKED = ((("read",),), ("stop", "go", "stop"), WORKED_SHELL)

OWNER = job(own=True)
SHARER = job()
STOPPED = job(own=True, state="stopped", notice="stop")
ENDED = job(own=True, state="ended", notice="end")


def row(*shapes, script="none", place=0, front="shell", mode="plain"):
    """A ROW with these triples of a JOB, a ROLE and a MANY, which are put in order."""
    return (script, place, front, mode, tuple(sorted([((one, role), many) for one, role, many in shapes])))


FULL = row(
    (OWNER, "both", 1), (OWNER, "none", 3), (SHARER, "none", ANY), script="fore", place=2, front="job", mode="raw")
PLAIN = row((SHARER, "none", 2))


class RowTest(unittest.TestCase):

    def good(self, setup, *things):
        for thing in things:
            self.assertIs(is_row(setup, thing), True, thing)

    def bad(self, setup, *things):
        """That none of these is a ROW, and that each call refuses it."""
        for thing in things:
            self.assertIs(is_row(setup, thing), False)
            for call in (lambda: covers(setup, thing, START), lambda: is_under(setup, thing, row()),
                         lambda: is_under(setup, row(), thing), lambda: behind(setup, thing)):
                with self.assertRaises(BadRow) as told:
                    call()
                self.assertEqual(repr(told.exception.place), "()")


class Rows(RowTest):

    def test_some(self):
        self.good(READER, row(), FULL, PLAIN, row(script="back", place=1, front="nobody", mode="raw"))

    def test_what_is_no_tuple_of_five(self):
        self.bad(READER, *NEITHER, *[thing for thing in THINGS if not isinstance(thing, tuple) or len(thing) != 5])
        for one in (row(), FULL):
            self.bad(READER, one[:4], one + ((),), list(one), one[::2], (one,), one[1:])

    def test_the_script_and_the_place(self):
        for at, script in enumerate(("fore", "back", "front", "behind")):
            for many in range(7):
                setup = setup_of(("read",), shell=put(shell_of(), at, ("go",) * many))
                self.good(setup, *[row(script=script, place=place) for place in range(many)])
                self.bad(setup, *[row(script=script, place=place) for place in (many, many + 1, -1, 10 ** 999)])
        self.bad(READER, row(place=1), row(place=-1))
        for thing in NEITHER + [0, True, False, (), "Fore", "shell", "look", ("fore",)]:
            self.bad(READER, put(FULL, 0, thing), put(row(), 0, thing))
        for thing in NEITHER + [True, False, (), (0,), "0"]:
            self.bad(READER, put(FULL, PLACE, thing), put(row(), PLACE, thing))

    def test_the_front(self):
        hand = row((OWNER, "hand", 1), script="fore")
        for front in ("shell", "nobody"):
            self.good(READER, row(front=front), put(hand, FRONT, front))
        for thing in NEITHER + [0, 1, -1, True, False, (), "none", "hand", "front", "Job", ("job",)]:
            self.bad(READER, put(FULL, FRONT, thing), put(PLAIN, FRONT, thing), put(row(), FRONT, thing))

    def test_the_mode(self):
        for mode in ("plain", "raw"):
            self.good(READER, row(mode=mode), put(FULL, MODE, mode))
        for thing in NEITHER + [0, 1, True, False, (), "cooked", "Raw", "none", ("raw",)]:
            self.bad(READER, put(FULL, MODE, thing), put(row(), MODE, thing))

    def test_shapes_that_are_no_tuple(self):
        for thing in NEITHER + [[], list(FULL[SHAPES]), 0, 1, True, False, "none", {(OWNER, "none"): 1}]:
            self.bad(READER, put(PLAIN, SHAPES, thing), put(row(), SHAPES, thing))

    def test_a_pair_that_is_none(self):
        shape = (OWNER, "none")
        pairs = [(), (shape,), (shape, 1, 1), [shape, 1], {shape: 1}, shape, (1, shape), 0, 1, True, "ab", (OWNER, 1)]
        for pair in NEITHER + pairs:
            self.bad(READER, put(row(), SHAPES, (pair,)), put(row(), SHAPES, (((SHARER, "none"), 2), pair)))
            self.bad(READER, put(row(), SHAPES, (pair, ((OWNER, "none"), 2))))

    def test_a_shape_that_is_none(self):
        shapes = [(), (OWNER,), (OWNER, "none", "none"), [OWNER, "none"], ("none", OWNER), OWNER, 0, True, "ab"]
        for shape in NEITHER + shapes:
            self.bad(READER, put(row(), SHAPES, ((shape, 1),)))

    def test_every_job_of_a_standing(self):
        setup = setup_of(("read",), ("hold", "write"))
        for kind, acts in enumerate(setup[0]):
            for place in range(len(acts) + 1):
                for own in (True, False):
                    for held in (True, False):
                        for state, notice in STATES:
                            self.good(setup, row((job(kind, place, own, state, notice, held), "none", 1)))
        for one in (job(2), job(-1), job(0, 2), job(1, 3), job(0, -1), job(True), job(0, True), job(0, False),
                    job(own=1), job(own=0), job(held=1), job(own=None), job(state="ended"), job(notice="end"),
                    job(state="ended", notice="stop"), job(state="runs "), OWNER[:5], OWNER + (True,), list(OWNER)):
            self.bad(setup, put(row(), SHAPES, (((one, "none"), 1),)))
        for at in range(6):
            for thing in NEITHER + [(), "0", "True", (0,)]:
                self.bad(READER, put(row(), SHAPES, (((put(OWNER, at, thing), "none"), 1),)))

    def test_the_jobs_are_those_of_the_setup(self):
        one = row((job(1, 2), "none", 1))
        self.good(SETUP, one)
        self.bad(READER, one)
        self.bad(setup_of(("read",), ("read",)), one)

    def test_a_role_that_is_none(self):
        for thing in NEITHER + [0, 1, True, False, (), "None", "Both", "job", "shell", ("none",)]:
            self.bad(READER, put(FULL, SHAPES, (((OWNER, thing), 1),)), put(row(), SHAPES, (((OWNER, thing), 1),)))

    def test_many(self):
        for many in (0, 1, 2, 3, 1000, 10 ** 999):
            self.good(READER, row((OWNER, "none", many)), row((SHARER, "none", 1), (OWNER, "none", many)))
        for many in (-1, -2, -(10 ** 999), True, False, "1", "", 1.0, 0.0, None, (), (1,), "any"):
            self.bad(READER, row((OWNER, "none", many)), row((SHARER, "none", 1), (OWNER, "none", many)))
        for thing in NEITHER:
            self.bad(READER, row((OWNER, "none", thing)))

    def test_many_of_a_role(self):
        self.good(READER, row((OWNER, "hand", 1), (OWNER, "front", 1), script="fore", front="job"))
        self.good(READER, row((OWNER, "both", 1), script="fore", front="job"))
        for many in (0, 2, 3, -1, True, "1", None, 1.0):
            self.bad(READER, row((OWNER, "hand", many), (OWNER, "front", 1), script="fore", front="job"))
            self.bad(READER, row((OWNER, "hand", 1), (OWNER, "front", many), script="fore", front="job"))
            self.bad(READER, row((OWNER, "both", many), script="fore", front="job"))
            self.bad(READER, row((OWNER, "hand", many), script="fore"))

    def test_the_shapes_ascend(self):
        shapes = FULL[SHAPES]
        self.assertEqual(shapes, tuple(sorted(shapes)))
        self.good(READER, put(FULL, SHAPES, shapes))
        for order in ((0, 2, 1), (1, 0, 2), (1, 2, 0), (2, 0, 1), (2, 1, 0)):
            self.bad(READER, put(FULL, SHAPES, tuple([shapes[at] for at in order])))
        # By the JOB, the ROLE last.
        self.good(READER, put(row(script="fore"), SHAPES, (((SHARER, "none"), 1), ((OWNER, "hand"), 1))))
        self.good(READER, put(row(script="fore"), SHAPES, (((SHARER, "hand"), 1), ((SHARER, "none"), 1))))
        self.bad(READER, put(row(script="fore"), SHAPES, (((OWNER, "hand"), 1), ((SHARER, "none"), 1))))
        self.bad(READER, put(row(script="fore"), SHAPES, (((SHARER, "none"), 1), ((SHARER, "hand"), 1))))

    def test_no_shape_twice(self):
        for first, second in ((1, 1), (1, 2), (2, 1), (0, 1), (0, 0)):
            self.bad(READER, row((OWNER, "none", first), (OWNER, "none", second)))
            self.bad(READER, row((SHARER, "none", 5), (OWNER, "none", first), (OWNER, "none", second)))
        self.bad(READER, row((OWNER, "hand", 1), (OWNER, "hand", 1), script="fore"))

    def test_just_one_is_front_if_front_is_job(self):
        for script in ("fore", "back", "front", "behind"):
            told = dict(script=script, front="job")
            self.good(READER, row((OWNER, "front", 1), **told), row((OWNER, "both", 1), **told))
            self.bad(READER, row(**told), row((OWNER, "none", 1), **told), row((OWNER, "hand", 1), **told))
            self.bad(READER, row((OWNER, "front", 1), (STOPPED, "front", 1), **told))
            self.bad(READER, row((OWNER, "front", 1), (STOPPED, "both", 1), **told))
            self.bad(READER, row((OWNER, "front", 1), (OWNER, "both", 1), **told))
        self.good(READER, row((OWNER, "front", 1), front="job"), row((STOPPED, "front", 1), front="job"))
        self.bad(READER, row(front="job"))

    def test_none_is_front_otherwise(self):
        for front in ("shell", "nobody"):
            for role in ("front", "both"):
                self.bad(READER, row((OWNER, role, 1), front=front))
                self.bad(READER, row((OWNER, role, 1), script="fore", front=front))

    def test_the_job_in_front_has_own_and_is_not_ended(self):
        for own in (True, False):
            for state, notice in STATES:
                one = job(own=own, state=state, notice=notice)
                call = self.good if own and state != "ended" else self.bad
                call(READER, row((one, "front", 1), front="job"))
                call(READER, row((one, "front", 1), script="fore", front="job"))
                call(READER, row((one, "both", 1), script="fore", front="job"))
                self.good(READER, row((one, "hand", 1), script="fore"))

    def test_at_most_one_is_hand(self):
        for script in ("fore", "back", "front", "behind"):
            self.good(READER, row(script=script), row((OWNER, "hand", 1), script=script))
            self.bad(READER, row((OWNER, "hand", 1), (SHARER, "hand", 1), script=script))
            self.bad(READER, row((OWNER, "hand", 1), (STOPPED, "both", 1), script=script, front="job"))
            self.good(READER, row((OWNER, "hand", 1), (STOPPED, "front", 1), script=script, front="job"))

    def test_none_is_hand_if_the_shell_is_idle(self):
        self.bad(READER, row((OWNER, "hand", 1)), row((OWNER, "both", 1), front="job"))
        self.bad(READER, row((OWNER, "hand", 1), (STOPPED, "front", 1), front="job"))

    def test_many_shapes(self):
        setup = setup_of(("hold",) * 5, ("hold",) * 5, ("hold",) * 5)
        jobs = [(kind, place, own, state, notice, held) for kind in range(3) for place in range(6)
                for own in (True, False) for state, notice in STATES for held in (True, False)]
        every = row(*[(one, "none", number % 4) for number, one in enumerate(jobs)])
        self.good(setup, every)
        self.assertIs(is_under(setup, every, every), True)


class RowOf(unittest.TestCase):

    def told(self, setup, before, want):
        self.assertIs(is_row(setup, want), True)
        self.assertEqual(repr(row_of(setup, before)), repr(want))

    def test_start(self):
        self.told(READER, START, ("none", 0, "shell", "plain", ()))

    def test_jobs_of_one_shape_are_counted(self):
        before = standing(OWNER, SHARER, OWNER, STOPPED, OWNER, SHARER)
        self.told(READER, before, row((OWNER, "none", 3), (SHARER, "none", 2), (STOPPED, "none", 1)))

    def test_script_place_front_and_mode(self):
        for front in ("shell", "nobody"):
            for mode in ("plain", "raw"):
                before = standing(OWNER, script="behind", place=2, front=front, mode=mode)
                want = row((OWNER, "none", 1), script="behind", place=2, front=front, mode=mode)
                self.told(READER, before, want)

    def test_the_roles(self):
        before = standing(OWNER, OWNER, OWNER, script="fore")
        self.told(READER, before, row((OWNER, "none", 3), script="fore"))
        self.told(READER, put(before, 4, 1), row((OWNER, "none", 2), (OWNER, "hand", 1), script="fore"))
        self.told(READER, put(before, 2, 0), row((OWNER, "none", 2), (OWNER, "front", 1), script="fore", front="job"))
        self.told(READER, put(put(before, 4, 1), 2, 0), row(
            (OWNER, "none", 1), (OWNER, "hand", 1), (OWNER, "front", 1), script="fore", front="job"))
        self.told(READER, put(put(before, 4, 2), 2, 2), row(
            (OWNER, "none", 2), (OWNER, "both", 1), script="fore", front="job"))

    def test_numbers_and_made_do_not_matter(self):
        before = standing((3, SHARER), (7, OWNER), (9, OWNER), script="back", hand=9, front=7, made=100)
        self.told(READER, before, row(
            (OWNER, "hand", 1), (OWNER, "front", 1), (SHARER, "none", 1), script="back", front="job"))

    def test_it_is_a_row_that_covers_the_standing(self):
        for before in (START, standing(OWNER, OWNER, SHARER, script="front", hand=0, front=1)):
            self.assertIs(covers(READER, row_of(READER, before), before), True)


class Covers(unittest.TestCase):

    def covered(self, one, *standings):
        for before in standings:
            self.assertIs(covers(READER, one, before), True, before)

    def bare(self, one, *standings):
        for before in standings:
            self.assertIs(covers(READER, one, before), False, before)

    def test_the_same_script_place_front_and_mode(self):
        one = row(script="fore", place=1, front="nobody", mode="raw")
        same = standing(script="fore", place=1, front="nobody", mode="raw")
        self.covered(one, same, put(same, 5, 7))
        for at, thing in ((0, "back"), (0, "front"), (1, 0), (1, 2), (2, "shell"), (3, "plain")):
            self.bare(one, put(same, at, thing))
        self.bare(row(), standing(front="nobody"), standing(mode="raw"), standing(script="fore"))
        self.covered(row(), START)

    def test_job_stands_for_a_number(self):
        one = row((OWNER, "front", 1), (OWNER, "none", 1), front="job")
        self.covered(one, standing(OWNER, OWNER, front=0), standing(OWNER, OWNER, front=1), standing(OWNER, front=0))
        self.bare(one, standing(OWNER, OWNER), standing(OWNER, OWNER, front="nobody"))
        self.bare(row((OWNER, "none", 2)), standing(OWNER, OWNER, front=0))

    def test_at_most_as_many_as_the_row_has(self):
        one = row((OWNER, "none", 2), (SHARER, "none", 1))
        self.covered(one, START, standing(OWNER), standing(SHARER), standing(OWNER, OWNER), standing(OWNER, SHARER))
        self.covered(one, standing(OWNER, SHARER, OWNER), standing(SHARER, OWNER, OWNER))
        self.bare(one, standing(OWNER, OWNER, OWNER), standing(SHARER, SHARER), standing(OWNER, OWNER, OWNER, SHARER))

    def test_any_many(self):
        one = row((OWNER, "none", ANY), (SHARER, "none", 1))
        for many in (0, 1, 2, 50):
            self.covered(one, standing(*[OWNER] * many), standing(SHARER, *[OWNER] * many))
            self.bare(one, standing(SHARER, SHARER, *[OWNER] * many))

    def test_a_very_large_many(self):
        self.covered(row((OWNER, "none", 10 ** 999)), START, standing(*[OWNER] * 50))

    def test_none_where_it_has_no_such_shape(self):
        one = row((OWNER, "none", ANY))
        for other in (SHARER, STOPPED, ENDED, job(place=1, own=True), job(own=True, held=True)):
            self.bare(one, standing(other), standing(OWNER, other))
        self.bare(row(), standing(OWNER))

    def test_the_same_jobs_with_the_same_roles(self):
        hand = row((OWNER, "hand", 1), script="fore")
        self.covered(hand, standing(OWNER, script="fore", hand=0))
        self.bare(hand, standing(OWNER, script="fore"), standing(script="fore"))
        self.bare(hand, standing(SHARER, script="fore", hand=0), standing(STOPPED, script="fore", hand=0))
        self.bare(hand, standing(OWNER, OWNER, script="fore", hand=0))
        self.bare(row(script="fore"), standing(OWNER, script="fore", hand=0))
        self.bare(row((OWNER, "none", ANY), script="fore"), standing(OWNER, script="fore", hand=0))
        both = row((OWNER, "both", 1), script="fore", front="job")
        self.covered(both, standing(OWNER, script="fore", hand=0, front=0))
        self.bare(both, standing(OWNER, script="fore", front=0), standing(OWNER, OWNER, script="fore", hand=1, front=0))
        two = row((OWNER, "front", 1), (OWNER, "hand", 1), script="fore", front="job")
        self.covered(two, standing(OWNER, OWNER, script="fore", hand=1, front=0))
        self.bare(two, standing(OWNER, script="fore", hand=0, front=0), standing(OWNER, script="fore", front=0))
        front = row((OWNER, "front", 1), script="fore", front="job")
        self.covered(front, standing(OWNER, script="fore", front=0))
        self.bare(front, standing(STOPPED, script="fore", front=0), standing(OWNER, script="fore", hand=0, front=0))


class Under(unittest.TestCase):

    def under(self, one, other, setup=READER):
        self.assertIs(is_under(setup, one, other), True)

    def not_under(self, one, other, setup=READER):
        self.assertIs(is_under(setup, one, other), False)

    def test_itself(self):
        for one in (row(), FULL, PLAIN, row((OWNER, "none", ANY))):
            self.under(one, one)
            self.under(one, copy.deepcopy(one))

    def test_how_many(self):
        numbers = (1, 2, 3, 10 ** 999, ANY)
        for at, many in enumerate(numbers):
            for next_at, other in enumerate(numbers):
                call = self.under if at <= next_at else self.not_under
                call(row((OWNER, "none", many)), row((OWNER, "none", other)))
                call(row((OWNER, "none", many), (SHARER, "none", 1)), row((OWNER, "none", other), (SHARER, "none", 2)))

    def test_each_shape(self):
        small, large = row((OWNER, "none", 1)), row((OWNER, "none", 1), (SHARER, "none", 1))
        self.under(small, large)
        self.under(row(), small)
        self.not_under(large, small)
        self.not_under(small, row())
        self.not_under(small, row((SHARER, "none", ANY)))
        self.not_under(row((OWNER, "none", 2), (SHARER, "none", 1)), row((OWNER, "none", 1), (SHARER, "none", 2)))

    def test_the_roles_are_the_same(self):
        rows = [
            row((OWNER, "none", ANY), script="fore"),
            row((OWNER, "none", ANY), (OWNER, "hand", 1), script="fore"),
            row((OWNER, "none", ANY), (SHARER, "hand", 1), script="fore"),
            row((OWNER, "none", ANY), (OWNER, "front", 1), script="fore", front="job"),
            row((OWNER, "none", ANY), (STOPPED, "front", 1), script="fore", front="job"),
            row((OWNER, "none", ANY), (OWNER, "both", 1), script="fore", front="job"),
            row((OWNER, "none", ANY), (OWNER, "hand", 1), (OWNER, "front", 1), script="fore", front="job")]
        for at, one in enumerate(rows):
            for other_at, other in enumerate(rows):
                call = self.under if at == other_at else self.not_under
                call(one, other)

    def test_script_place_front_and_mode_are_the_same(self):
        one = row((OWNER, "none", 1), script="fore", place=1, front="nobody", mode="raw")
        for at, thing in ((0, "back"), (1, 0), (2, "shell"), (3, "plain")):
            self.not_under(one, put(one, at, thing))
            self.not_under(put(one, at, thing), one)

    def test_it_is_just_that_what_one_covers_the_other_covers(self):
        counts = (None, 1, 2, ANY)
        rows = [row(*[(one, "none", many) for one, many in ((OWNER, first), (SHARER, second)) if many is not None])
                for first in counts for second in counts]
        standings = [standing(*[OWNER] * first, *[SHARER] * second) for first in range(4) for second in range(4)]
        covered = [[covers(READER, one, before) for before in standings] for one in rows]
        for at, one in enumerate(rows):
            for other_at, other in enumerate(rows):
                want = all([there or not here for here, there in zip(covered[at], covered[other_at])])
                self.assertIs(is_under(READER, one, other), want)


class Behind(unittest.TestCase):

    def comes(self, setup, one, *want):
        """That just these pairs come of the ROW, and that each is there once, in order."""
        told = behind(setup, one)
        self.assertIsInstance(told, tuple)
        self.assertEqual(list(told), sorted(want))
        self.assertEqual(repr(told), repr(tuple(sorted(set(told)))))
        for other, word in told:
            self.assertIs(is_row(setup, other), True)
            self.assertIsInstance(word, str)

    def test_of_start(self):
        self.comes(WORKED, row(), (row(), ""), (row((SHARER, "hand", 1), script="fore"), ""),
                   (row((SHARER, "hand", 1), script="back"), ""))

    def test_the_row_itself_is_among_them_by_a_look(self):
        for one in (row(), FULL, PLAIN, row((OWNER, "none", ANY))):
            self.assertIn((one, ""), [(other, "") for other, _ in behind(READER, one)])
        self.assertIn((row(front="nobody"), "locked"), behind(READER, row(front="nobody")))
        self.assertIn((row(mode="raw"), "leftraw"), behind(READER, row(mode="raw")))
        self.assertNotIn((row(mode="raw"), ""), behind(READER, row(mode="raw")))
        setup = setup_of(("read",), shell=(("wait",), (), (), ()))
        waits = row((STOPPED, "hand", 1), script="fore")
        self.comes(setup, waits, (waits, "deafwait"))

    def test_the_wrong_is_the_word(self):
        one = row((SHARER, "none", 1), script="back")
        self.comes(
            setup_of(("read",), shell=((), ("take", "take"), (), ())), one,
            (one, ""), (row((SHARER, "none", 1), script="back", place=1), ""),
            (row((job(place=1), "none", 1), script="back"), "misread"),
            (row((job(state="stopped", notice="stop"), "none", 1), script="back"), "misstop"),
            (row((job(state="ended", notice="end"), "none", 1), script="back"), "misbreak"))

    def test_one_of_many_leaves_and_one_comes(self):
        setup = setup_of(("write",), shell=((), ("take",), (), ()))
        stopped, wrote = job(state="stopped", notice="stop"), job(place=1)
        told = dict(script="back", front="nobody")
        one = row((SHARER, "none", 3), (stopped, "none", 2), **told)
        looked, over = (one, ""), (row((SHARER, "none", 3), (stopped, "none", 2)), "")
        stops = row((SHARER, "none", 2), (stopped, "none", 3), **told)
        self.comes(setup, one, looked, over, (stops, ""))
        writes = row((SHARER, "none", 2), (stopped, "none", 2), (wrote, "none", 1), **told)
        self.comes(put(setup, 1, ("stop", "go", "stop")), one, looked, over, (writes, ""))

    def test_the_last_one_leaves_no_shape(self):
        setup = setup_of(("hold",), shell=((), (), (), ()))
        over = job(place=1, state="ended", notice="end")
        heard = row(front="nobody")
        self.comes(setup, row((over, "none", 1), front="nobody"),
                   (row((over, "none", 1), front="nobody"), "locked"), (heard, ""))

    def test_any_many_stay_whether_one_comes_or_leaves(self):
        setup = setup_of(("again",), shell=((), (), (), ()))
        over = job(state="ended", notice="end")
        one = row((SHARER, "none", ANY), (over, "none", ANY))
        stopped = job(state="stopped", notice="stop")
        # A start, an ACT, a hearing and a break take one job from any many, or to any many.
        self.comes(setup, one, (one, ""), (one, "misbreak"),
                   (row((SHARER, "none", ANY), (over, "none", ANY), (stopped, "none", 1)), "misstop"))

    def test_one_of_any_many_may_get_a_role(self):
        setup = setup_of(("hold",), shell=((), (), ("give", "go"), ()))
        one = row((STOPPED, "none", ANY))
        begun = row((STOPPED, "none", ANY), (STOPPED, "hand", 1), script="front")
        given = row((STOPPED, "none", ANY), (STOPPED, "both", 1), script="front", place=1, front="job")
        gone = row((STOPPED, "none", ANY), (OWNER, "front", 1), front="job")
        heard = row((STOPPED, "none", ANY), (job(own=True, state="stopped"), "none", 1))
        started = row((STOPPED, "none", ANY), (SHARER, "none", 1))
        self.comes(setup, one, (one, ""), (begun, ""), (heard, ""), (started, ""))
        self.comes(setup, begun, (begun, ""), (given, ""))
        self.comes(setup, given, (given, ""), (gone, ""))

    def test_a_role_may_be_lost(self):
        setup = setup_of(("read",), shell=((), ("take",), ("give", "go", "go"), ()))
        one = row((OWNER, "front", 1), (STOPPED, "hand", 1), (STOPPED, "none", 2), script="front", front="job")
        given = row(
            (OWNER, "none", 1), (STOPPED, "both", 1), (STOPPED, "none", 2), script="front", place=1, front="job")
        self.assertIn((given, ""), behind(setup, one))
        taken = row((OWNER, "both", 1), (OWNER, "none", 2), (SHARER, "none", 1), script="back", front="job")
        self.assertIn((row((OWNER, "none", 3), (SHARER, "none", 1)), ""), behind(setup, taken))

    def test_what_comes_by_two_events_stands_there_once(self):
        setup = setup_of(("hold",), shell=((), (), (), ()))
        # "fore" and "back" come to the same, as do "front", "behind" and a look.
        self.comes(setup, row((STOPPED, "none", 1), front="shell"),
                   (row((STOPPED, "none", 1)), ""), (row((STOPPED, "none", 1), (SHARER, "none", 1)), ""),
                   (row((job(own=True, state="stopped"), "none", 1)), ""))

    def test_a_very_large_many(self):
        setup = setup_of(("hold",), shell=((), (), (), ()))
        many = 10 ** 999
        one = row((ENDED, "none", many), front="nobody")
        self.comes(setup, one, (one, "locked"), (row((ENDED, "none", many - 1), front="nobody"), ""))
        one = row((SHARER, "none", many), (STOPPED, "none", 1), (ENDED, "none", ANY))
        more = row((SHARER, "none", many + 1), (STOPPED, "none", 1), (ENDED, "none", ANY))
        self.assertIn((more, ""), behind(setup, one))

    def test_it_is_what_comes_of_the_fullest_standing(self):
        setup = (KINDS, RULES, (SHELL[0], ("listen", "wait"), SHELL[2], ("go", "group")))
        for script, hand in (("none", -1), ("fore", 0), ("back", 3), ("front", 1), ("behind", -1)):
            for front in ("shell", "nobody", 0, 1):
                for one in (SHARER, STOPPED, ENDED, job(1, 2), job(2, 1, True)):
                    before = standing(
                        OWNER, OWNER, one, one, job(1, 5, state="ended", notice="end"), script=script, hand=hand,
                        front=front)
                    self.assertIs(is_standing(setup, before), True)
                    want = []
                    for event in events_at(setup, before):
                        told, wrong = step(setup, before, event)
                        want.append((row_of(setup, told), wrong or ""))
                    self.assertEqual(list(behind(setup, row_of(setup, before))), sorted(set(want)))

    def test_any_many_are_more_than_one_event_exhausts(self):
        setup = (KINDS, RULES, (SHELL[0], ("listen", "wait"), SHELL[2], ("go", "group")))
        for script, hand in (("none", -1), ("fore", 0), ("back", -1), ("front", 0)):
            for front in ("shell", 0):
                for one in (SHARER, STOPPED, ENDED, job(1, 2), job(2, 1, True)):
                    before = standing(OWNER, one, one, one, one, script=script, hand=hand, front=front)
                    shape = (one, "none")
                    want = []
                    for event in events_at(setup, before):
                        told, wrong = step(setup, before, event)
                        want.append((with_any(row_of(setup, told), shape), wrong or ""))
                    any_of_it = with_any(row_of(setup, before), shape)
                    self.assertEqual(list(behind(setup, any_of_it)), sorted(set(want)))


def with_any(one, shape):
    """The ROW, with ANY MANY of one SHAPE."""
    return put(one, SHAPES, tuple([(other, ANY if other == shape else many) for other, many in one[SHAPES]]))


class Errors(unittest.TestCase):

    CALLS = [
        lambda setup, thing: is_row(setup, thing),
        lambda setup, thing: row_of(setup, thing),
        lambda setup, thing: covers(setup, thing, thing),
        lambda setup, thing: is_under(setup, thing, thing),
        lambda setup, thing: behind(setup, thing)]

    def test_the_setup_is_checked_first(self):
        for call in self.CALLS:
            for thing in THINGS:
                with self.assertRaises(BadSetup) as told:
                    call(thing, thing)
                triple = isinstance(thing, tuple) and len(thing) == 3
                self.assertEqual(told.exception.place, ("kinds",) if triple else ())
            for setup, place in [
                    ((KINDS, RULES), ()), ((KINDS, None, SHELL), ("rules",)),
                    ((KINDS, RULES, put(SHELL, 1, None)), ("shell", 1))]:
                for thing in (None, row(), START):
                    with self.assertRaises(BadSetup) as told:
                        call(setup, thing)
                    self.assertEqual(told.exception.place, place)

    def test_anything(self):
        for thing in THINGS:
            self.assertIs(is_row(READER, thing), False)
            with self.assertRaises(BadStanding):
                row_of(READER, thing)
            with self.assertRaises(BadRow):
                covers(READER, thing, START)
            with self.assertRaises(BadStanding):
                covers(READER, row(), thing)
            with self.assertRaises(BadRow):
                is_under(READER, thing, row())
            with self.assertRaises(BadRow):
                is_under(READER, row(), thing)
            with self.assertRaises(BadRow):
                behind(READER, thing)

    def test_covers_checks_the_row_ahead_of_the_standing(self):
        for thing in (None, row()[:4], START):
            with self.assertRaises(BadRow) as told:
                covers(READER, thing, None)
            self.assertEqual(told.exception.place, ())
        for before, place in ((None, ()), (put(START, 2, 0), ("front",)), (row(), ()), (put(START, 3, "x"), ("mode",))):
            for call in (lambda: covers(READER, row(), before), lambda: row_of(READER, before)):
                with self.assertRaises(BadStanding) as told:
                    call()
                self.assertEqual(told.exception.place, place)

    def test_by_name(self):
        self.assertIs(is_row(setup=READER, thing=FULL), True)
        self.assertIs(is_row(thing=None, setup=READER), False)
        self.assertEqual(row_of(standing=START, setup=READER), row())
        self.assertIs(covers(standing=standing(SHARER), row=PLAIN, setup=READER), True)
        self.assertIs(is_under(other=PLAIN, row=row(), setup=READER), True)
        self.assertIs(is_under(setup=READER, row=PLAIN, other=row()), False)
        self.assertEqual(behind(row=PLAIN, setup=READER), behind(READER, PLAIN))


class Unchanged(unittest.TestCase):

    def test_equal_calls_tell_equal_things_and_change_nothing(self):
        before = standing(OWNER, SHARER, SHARER, script="fore", place=2, front=0, hand=0, mode="raw")
        for one in (FULL, PLAIN, row()):
            passed = (READER, one, before)
            again, kept = copy.deepcopy(passed), repr(passed)
            self.assertEqual(is_row(READER, one), is_row(*again[:2]))
            self.assertEqual(covers(READER, one, before), covers(*again))
            self.assertEqual(is_under(READER, one, PLAIN), is_under(*again[:2], PLAIN))
            self.assertEqual(behind(READER, one), behind(*again[:2]))
            self.assertEqual(row_of(READER, before), row_of(again[0], again[2]))
            self.assertEqual(repr(passed), kept)

    def test_what_is_refused_is_not_changed(self):
        shapes = [[[list(OWNER), "none"], 1]]
        for thing in (shapes, put(row(), SHAPES, shapes), list(row())):
            kept = repr(thing)
            self.assertIs(is_row(READER, thing), False)
            with self.assertRaises(BadRow):
                behind(READER, thing)
            self.assertEqual(repr(thing), kept)


if __name__ == "__main__":
    unittest.main()
