import copy
import random
import time
import unittest

import plain
from cases import STATES, job
from frontjobs.errors import BadRow, BadSetup, BadWrong
from frontjobs.rows import covers, is_row
from frontjobs.setups import WRONGS
from frontjobs.standings import START
from frontjobs.tables import bars, is_closed, is_table, lean, table
from samples import NEITHER, SETUP, THINGS, put
from shells import LARGEST, SETUPS, SMALL, WORKED

ANY = 0
SHAPES = 4


def row(*shapes, script="none", place=0, front="shell", mode="plain"):
    """A ROW with these triples of a JOB, a ROLE and a MANY, which are put in order."""
    return (script, place, front, mode, tuple(sorted([((one, role), many) for one, role, many in shapes])))


# A shell that does nothing, and jobs that hold: all of them stay in its group, in front.
IDLER = ((("hold",),), ("stop", "go", "stop"), ((), (), (), ()))
IDLE_JOBS = [
    job(0, place, False, state, notice, place == 1)
    for place in (0, 1) for state, notice in STATES if (state, notice) != ("runs", "stop")]
IDLE_ROW = row(*[(one, "none", ANY) for one in IDLE_JOBS])

# A shell that waits for each job: there is never more than one.
WAITER = SETUPS["stuck"]
RUNS, STOPPED, ENDED = job(), job(state="stopped", notice="stop"), job(state="ended", notice="end")
WAIT_TABLE = tuple(sorted([row()] + [
    row((one, "hand", 1), script=script) for script in ("fore", "back") for one in (RUNS, STOPPED, ENDED)]))


class Tables(unittest.TestCase):

    def good(self, setup, *things):
        for thing in things:
            self.assertIs(is_table(setup, thing), True)

    def bad(self, setup, *things):
        """That none of these is a TABLE, and what each call answers then."""
        for thing in things:
            self.assertIs(is_table(setup, thing), False)
            self.assertIs(is_closed(setup, thing), False)
            self.assertIs(bars(setup, "locked", thing), False)
            with self.assertRaises(BadRow) as told:
                lean(setup, thing)
            self.assertEqual(repr(told.exception.place), "()")

    def test_some(self):
        self.good(IDLER, (), (row(),), (IDLE_ROW,), (row(), IDLE_ROW), table(IDLER))
        self.good(WAITER, WAIT_TABLE, WAIT_TABLE[:3], WAIT_TABLE[4:], WAIT_TABLE[::2])

    def test_what_is_no_tuple_of_rows(self):
        things = [thing for thing in THINGS if not (isinstance(thing, tuple) and len(thing) == 0)]
        self.bad(IDLER, *things, IDLE_ROW, row(), [IDLE_ROW], list(WAIT_TABLE), {IDLE_ROW: 1}, iter((IDLE_ROW,)))
        for thing in THINGS:
            self.bad(IDLER, (thing,), (IDLE_ROW, thing), (thing, IDLE_ROW), (row(), IDLE_ROW, thing))

    def test_each_row_is_one(self):
        for bad in (list(IDLE_ROW), IDLE_ROW[:4], IDLE_ROW + (0,), put(IDLE_ROW, 1, 1), put(IDLE_ROW, 3, "cooked"),
                    put(IDLE_ROW, SHAPES, IDLE_ROW[SHAPES][::-1]), put(IDLE_ROW, SHAPES, list(IDLE_ROW[SHAPES])),
                    put(IDLE_ROW, 1, False), put(IDLE_ROW, 1, 0.0), row((job(1), "none", 1)), (IDLE_ROW,)):
            self.bad(IDLER, (bad,), (row(), bad), (row(), IDLE_ROW, bad))

    def test_things_otherwise_at_any_depth(self):
        shape, many = IDLE_ROW[SHAPES][0]
        for at in range(len(shape[0])):
            for thing in NEITHER + [(), "0", (0,), 7]:
                one = put(shape[0], at, thing)
                self.bad(IDLER, (put(IDLE_ROW, SHAPES, (((one, "none"), many),)),))
        for thing in NEITHER + [-1, True, False, "0", ()]:
            self.bad(IDLER, (put(IDLE_ROW, SHAPES, ((shape, thing),)),), (put(IDLE_ROW, SHAPES, (thing,)),))
        for at in range(5):
            for thing in NEITHER + [7, True, (0,)]:
                self.bad(IDLER, (put(IDLE_ROW, at, thing),))

    def test_the_rows_ascend(self):
        self.assertEqual(list(WAIT_TABLE), sorted(WAIT_TABLE))
        self.bad(WAITER, WAIT_TABLE[::-1])
        for at in range(1, len(WAIT_TABLE)):
            self.bad(WAITER, WAIT_TABLE[:at - 1] + (WAIT_TABLE[at], WAIT_TABLE[at - 1]) + WAIT_TABLE[at + 1:])

    def test_no_row_twice(self):
        self.bad(IDLER, (IDLE_ROW, IDLE_ROW), (row(), row()), (row(), IDLE_ROW, copy.deepcopy(IDLE_ROW)))
        for at in range(len(WAIT_TABLE)):
            self.bad(WAITER, WAIT_TABLE[:at + 1] + WAIT_TABLE[at:])

    def test_the_rows_are_those_of_the_setup(self):
        self.good(WORKED, table(WORKED))
        self.bad(IDLER, table(WORKED))
        self.bad(SETUPS["does nothing"], table(WORKED))


class Closed(unittest.TestCase):

    def closed(self, setup, *things):
        for thing in things:
            self.assertIs(is_closed(setup, thing), True)
            self.assertTrue(plain.closed(setup, thing)[0])

    def open(self, setup, *things):
        for thing in things:
            self.assertIs(is_table(setup, thing), True)
            self.assertIs(is_closed(setup, thing), False)
            self.assertFalse(plain.closed(setup, thing)[0])
            for wrong in WRONGS:
                self.assertIs(bars(setup, wrong, thing), False)

    def test_of_any_many_jobs(self):
        self.closed(IDLER, (IDLE_ROW,), (row(), IDLE_ROW))
        self.open(IDLER, (), (row(),))

    def test_each_shape_is_wanted(self):
        shapes = IDLE_ROW[SHAPES]
        for at in range(len(shapes)):
            self.open(IDLER, (put(IDLE_ROW, SHAPES, shapes[:at] + shapes[at + 1:]),))

    def test_a_number_instead_of_any_many(self):
        shapes = IDLE_ROW[SHAPES]
        for at in range(len(shapes)):
            for many in (1, 2, 3, 10 ** 999):
                less = put(IDLE_ROW, SHAPES, put(shapes, at, (shapes[at][0], many)))
                self.open(IDLER, (less,))
                # Beside the ROW of any many it does not matter.
                self.closed(IDLER, tuple(sorted([less, IDLE_ROW])))

    def test_one_of_the_rows_covers_start(self):
        nobody = put(IDLE_ROW, 2, "nobody")
        self.closed(IDLER, (nobody, IDLE_ROW))
        self.open(IDLER, (nobody,))
        self.open(IDLER, (put(IDLE_ROW, 3, "raw"),))
        # A ROW with jobs COVERS START too, which has fewer.
        self.closed(IDLER, (IDLE_ROW,))

    def test_a_row_more_which_leads_out(self):
        setup = put(IDLER, 2, ((), (), ("take", "take"), ()))
        ready = table(setup)
        self.closed(setup, ready)
        self.closed(setup, tuple(sorted(ready + (put(row(), 2, "nobody"),))))
        alone = row((job(own=True), "none", 1))
        self.open(setup, tuple(sorted(ready + (alone,))))

    def test_there_is_never_more_than_one_job(self):
        self.closed(WAITER, WAIT_TABLE)
        for at in range(len(WAIT_TABLE)):
            self.open(WAITER, WAIT_TABLE[:at] + WAIT_TABLE[at + 1:])

    def test_many_is_what_is_there_at_most(self):
        # With one job behind, it may do all that it does: the ROW with two of them has to be there for two.
        setup = put(WAITER, 0, (("hold",),))
        ready = table(setup)
        shapes = [(one, "none", 2) for one in IDLE_JOBS]
        self.closed(setup, ready)
        self.open(setup, tuple(sorted(ready + (row(shapes[0]),))))
        self.open(setup, tuple(sorted(ready + (row(*shapes),))))

    def test_jobs_of_one_shape_that_are_too_many_to_be_set_up(self):
        over = job(place=1, state="ended", notice="end", held=True)
        for many in (1000, 10 ** 999):
            self.closed(IDLER, tuple(sorted([IDLE_ROW, row((over, "none", many))])))
            # What is heard of leaves: from as many as there are on, each smaller number is COVERED as well.
            wide = put(IDLER, 2, ((), (), ("take",), ()))
            ready = table(wide)
            self.assertIs(is_closed(wide, tuple(sorted(set(ready) | {row((over, "none", many))}))), True)

    def test_near_a_table(self):
        chance = random.Random(7)
        for name in ("worked", "stuck", "does nothing", "gives the front away", "takes the front", "counted jobs"):
            setup = SETUPS[name]
            ready = table(setup)
            for _ in range(12):
                rows = list(ready)
                at = chance.randrange(len(rows))
                shapes = list(rows[at][SHAPES])
                without = [number for number, (shape, _) in enumerate(shapes) if shape[1] == "none"]
                if not without or chance.random() < 0.3:
                    rows.pop(at)
                else:
                    other = chance.choice(without)
                    shapes[other:other + 1] = chance.choice([[], [(shapes[other][0], chance.choice((1, 2)))]])
                    rows.append(put(rows[at], SHAPES, tuple(shapes)))
                    if chance.random() < 0.5:
                        rows.pop(at)
                thing = tuple(sorted(set(rows)))
                sealed, words = plain.closed(setup, thing)
                self.assertIs(is_closed(setup, thing), sealed)
                for wrong in WRONGS:
                    self.assertIs(bars(setup, wrong, thing), sealed and wrong not in words)


class Bars(unittest.TestCase):

    def test_what_comes_of_a_closed_table(self):
        for wrong in WRONGS:
            self.assertIs(bars(IDLER, wrong, (IDLE_ROW,)), wrong not in ("misstop", "misbreak"))
            self.assertIs(bars(WAITER, wrong, WAIT_TABLE), wrong not in ("misstop", "misbreak", "deafwait"))

    def test_a_closed_table_may_be_wider_than_it_need_be(self):
        self.assertIs(bars(IDLER, "locked", (put(IDLE_ROW, 2, "nobody"), IDLE_ROW)), False)
        self.assertIs(bars(IDLER, "leftraw", tuple(sorted([IDLE_ROW, put(IDLE_ROW, 3, "raw")]))), False)
        self.assertIs(bars(IDLER, "overwrite", (put(IDLE_ROW, 2, "nobody"), IDLE_ROW)), True)

    def test_each_wrong_that_does_not_come(self):
        for name, setup in SETUPS.items():
            ready = table(setup)
            sealed, words = plain.closed(setup, ready)
            self.assertTrue(sealed)
            for wrong in WRONGS:
                self.assertIs(bars(setup, wrong, ready), wrong not in words, name)

    def test_bad_wrong(self):
        for wrong in NEITHER + [0, True, (), "Misread", "misread ", "none", "", ("misread",)]:
            for thing in ((IDLE_ROW,), None, 5):
                with self.assertRaises(BadWrong) as told:
                    bars(IDLER, wrong, thing)
                self.assertIs(told.exception.wrong, wrong)


class Ready(unittest.TestCase):

    def test_it_is_a_closed_table(self):
        for name, setup in SETUPS.items():
            ready = table(setup)
            self.assertIs(is_table(setup, ready), True, name)
            self.assertIs(is_closed(setup, ready), True, name)
            self.assertEqual(repr(ready), repr(tuple(sorted(ready))))
            self.assertTrue(all([is_row(setup, one) for one in ready]))

    def test_by_hand(self):
        self.assertEqual(table(IDLER), (IDLE_ROW,))
        self.assertEqual(table(WAITER), WAIT_TABLE)

    def test_it_is_what_a_plain_tree_tells(self):
        chance = random.Random(29)
        setups = list(SMALL.values()) + [SETUPS[name] for name in ("stuck", "gives the front away", "waits")]
        setups += [plain.chance_setup(chance, 2, 1) for _ in range(60)]
        for setup in setups:
            ready = table(setup)
            if len(ready) < 30 or setup in SMALL.values():
                self.assertEqual(ready, plain.table(setup), setup)
                for at in range(len(ready)):
                    left = ready[:at] + ready[at + 1:]
                    self.assertIs(is_closed(setup, left), plain.closed(setup, left)[0], (setup, at))
                words = plain.closed(setup, ready)[1]
                self.assertEqual([wrong for wrong in WRONGS if not bars(setup, wrong, ready)],
                                 [wrong for wrong in WRONGS if wrong in words], setup)

    def test_it_covers_what_plain_runs_lead_to(self):
        for name in ("worked", "stuck", "takes the front", "gives the front away", "counted jobs", "held"):
            setup = SETUPS[name]
            ready = table(setup)
            rows = {}
            for one in ready:
                rows.setdefault(one[:2] + one[3:4], []).append(one)
            for standing in plain.reached(setup, 1)[0]:
                near = rows.get(standing[:2] + standing[3:4], [])
                self.assertTrue(any([covers(setup, one, standing) for one in near]), (name, standing))

    def test_it_bars_what_stands_in_no_trace(self):
        for name in ("worked", "never takes the front back", "does nothing", "waits to read", "waits", "held"):
            setup = SETUPS[name]
            ready = table(setup)
            first = plain.reached(setup, 2)[1]
            for wrong in WRONGS:
                self.assertIs(bars(setup, wrong, ready), wrong not in first, (name, wrong))

    def test_one_row_left_out(self):
        for name in ("worked", "stuck", "waits to read", "counted jobs"):
            setup = SETUPS[name]
            ready = table(setup)
            self.assertEqual(lean(setup, ready), ready)
            for at in range(len(ready)):
                self.assertIs(is_closed(setup, ready[:at] + ready[at + 1:]), False)


class Lean(unittest.TestCase):

    def test_what_is_under_another_one_goes(self):
        small = [row(), row((RUNS, "none", 1)), row((RUNS, "none", 2)), row((RUNS, "none", ANY))]
        self.assertEqual(lean(IDLER, tuple(sorted(small))), (small[3],))
        self.assertEqual(lean(IDLER, tuple(sorted(small[:3]))), (small[2],))
        self.assertEqual(lean(IDLER, (small[0],)), (small[0],))
        self.assertEqual(lean(IDLER, ()), ())
        self.assertEqual(lean(IDLER, (row(), IDLE_ROW)), (IDLE_ROW,))

    def test_what_is_not_under_another_one_stays(self):
        rows = tuple(sorted([
            row((RUNS, "none", 2)), row((RUNS, "none", 1), (STOPPED, "none", 1)), row((STOPPED, "none", ANY)),
            row(front="nobody"), row(mode="raw"), row(script="fore"), row((RUNS, "hand", 1), script="fore"),
            row((RUNS, "hand", 1), script="back"), row((STOPPED, "hand", 1), script="fore")]))
        self.assertIs(is_table(WAITER, rows), True)
        self.assertEqual(lean(WAITER, rows), rows)

    def test_the_jobs_with_a_role_are_the_same(self):
        mine = job(own=True)
        rows = tuple(sorted([
            row((mine, "hand", 1), script="fore"), row((mine, "none", ANY), script="fore"),
            row((mine, "both", 1), script="fore", front="job"),
            row((mine, "front", 1), (mine, "none", ANY), script="fore", front="job"),
            row((mine, "hand", 1), (mine, "front", 1), script="fore", front="job")]))
        self.assertEqual(lean(WAITER, rows), rows)
        more = tuple(sorted(rows + (row((mine, "front", 1), script="fore", front="job"),)))
        self.assertEqual(lean(WAITER, more), rows)

    def test_the_other_rows_stay_as_they_are(self):
        ready = table(WORKED)
        wide = tuple(sorted(ready + (row(), row(front="nobody"))))
        self.assertEqual(repr(lean(WORKED, wide)), repr(tuple([one for one in wide if one != row()])))
        self.assertEqual(lean(WORKED, lean(WORKED, wide)), lean(WORKED, wide))

    def test_what_it_leaves_is_as_closed(self):
        setup = SETUPS["counted jobs"]
        ready = table(setup)
        wide = tuple(sorted(set(ready + tuple([put(one, SHAPES, one[SHAPES][1:]) for one in ready if one[SHAPES] and
                                               one[SHAPES][0][0][1] == "none"]))))
        self.assertIs(is_table(setup, wide), True)
        self.assertEqual(lean(setup, wide), ready)
        self.assertIs(is_closed(setup, wide), True)


class Calls(unittest.TestCase):

    def test_bad_setups_come_first(self):
        bad = [((), thing) for thing in (None, (), WORKED[:2], list(WORKED))]
        bad += [(("kinds",), put(WORKED, 0, ())), (("kinds", 0), put(WORKED, 0, (("sing",),))),
                (("rules",), put(WORKED, 1, ("go",))), (("shell",), put(WORKED, 2, ())),
                (("shell", 2), put(WORKED, 2, put(WORKED[2], 2, None)))]
        for place, setup in bad:
            for call in (lambda: is_table(setup, None), lambda: is_closed(setup, None), lambda: bars(setup, None, None),
                         lambda: table(setup), lambda: lean(setup, None)):
                with self.assertRaises(BadSetup) as told:
                    call()
                self.assertEqual(told.exception.place, place)

    def test_by_names(self):
        ready = table(setup=WORKED)
        self.assertIs(is_table(thing=ready, setup=WORKED), True)
        self.assertIs(is_closed(thing=ready, setup=WORKED), True)
        self.assertIs(bars(thing=ready, wrong="locked", setup=WORKED), True)
        self.assertEqual(lean(thing=ready, setup=WORKED), ready)

    def test_what_is_passed_stays_and_equal_calls_tell_equal_things(self):
        for setup in (WORKED, SETUP):
            before = copy.deepcopy(setup)
            ready = table(setup)
            kept = copy.deepcopy(ready)
            self.assertEqual(repr(table(setup)), repr(ready))
            for _ in range(2):
                self.assertIs(is_closed(setup, ready), True)
                self.assertEqual(repr(lean(setup, ready)), repr(kept))
            self.assertEqual(repr((setup, ready)), repr((before, kept)))

    def test_the_largest_setups_in_time(self):
        for name, setup in LARGEST.items():
            ready = table(setup)
            for call in (lambda: table(setup), lambda: is_table(setup, ready), lambda: is_closed(setup, ready),
                         lambda: bars(setup, "deafwait", ready), lambda: lean(setup, ready)):
                began = time.monotonic()
                call()
                self.assertLess(time.monotonic() - began, 5, name)
            self.assertIs(is_closed(setup, ready), True)


if __name__ == "__main__":
    unittest.main()
