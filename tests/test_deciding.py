import copy
import time
import unittest

import plain
from frontjobs.deciding import can_come, check_paper, fewest, paper, wrongs_of
from frontjobs.errors import BadPaper, BadSetup, BadWrong
from frontjobs.plays import is_play, trace
from frontjobs.setups import WRONGS
from frontjobs.tables import bars, table
from samples import NEITHER, SETUP, THINGS, put
from shells import LARGEST, SETUPS, SMALL, WORKED

LOOK = ("look",)

# With one job the way is longer than with two.
LONG_ALONE = ((("write", "raw", "read", "again"),), ("fail", "go", "go"), (("group", "go"), ("group",), (), ()))
ALONE = (("back", 0), ("job", 0), ("job", 0), ("line", 0), ("job", 0), ("shell",), ("job", 0))
BY_TWO = (("back", 0), ("shell",), ("back", 0), ("job", 1), ("job", 1), ("job", 0))

# A job gets the front, and keeps it when the SCRIPT is OVER.
BESIDE = ((("group", "raw"), ("write",)), ("stop", "go", "stop"), (("give",), (), (), ()))


def starts(run):
    return len([event for event in run if event[0] in ("fore", "back")])


class Example(unittest.TestCase):

    def test_the_worked_example(self):
        self.assertEqual(
            (fewest(WORKED, "unasked"), fewest(WORKED, "misread"), fewest(WORKED, "locked")), ((1, 3), (1, 2), None))
        self.assertEqual(wrongs_of(WORKED), ("misread", "misstop", "misbreak", "unasked"))

    def test_its_papers(self):
        self.assertEqual(paper(WORKED, "unasked"), ("comes", (("fore", 0), ("shell",), ("job", 0))))
        for key in ("line", "stop", "break"):
            wrong = {"line": "misread", "stop": "misstop", "break": "misbreak"}[key]
            self.assertEqual(paper(WORKED, wrong), ("comes", (("back", 0), (key, 0))))
        for wrong in ("overwrite", "locked", "leftraw", "deafwait"):
            word, ready = paper(WORKED, wrong)
            self.assertEqual(word, "never")
            self.assertIs(bars(WORKED, wrong, ready), True)


class Near(unittest.TestCase):
    """What each of some SETUPs lets come."""

    def told(self, name, **first):
        """That just these WRONGS come, and with how few jobs and EVENTs."""
        setup = SETUPS[name]
        self.assertEqual(wrongs_of(setup), tuple([wrong for wrong in WRONGS if wrong in first]))
        for wrong in WRONGS:
            self.assertIs(can_come(setup, wrong), wrong in first)
            self.assertEqual(fewest(setup, wrong), first.get(wrong))

    def test_a_shell_that_never_takes_the_front_back(self):
        self.told("never takes the front back", misread=(1, 2), misstop=(1, 2), misbreak=(1, 2), unasked=(1, 3),
                  locked=(1, 6))

    def test_a_shell_that_does_nothing(self):
        self.told("does nothing", misread=(1, 2), misstop=(1, 2), misbreak=(1, 2))

    def test_a_shell_that_gives_the_front_away(self):
        self.told("gives the front away", misstop=(1, 2), misbreak=(1, 2), locked=(1, 4))

    def test_a_shell_that_waits(self):
        self.told("waits", misread=(1, 2), misstop=(1, 2), misbreak=(1, 2), unasked=(1, 3), deafwait=(1, 5))

    def test_jobs_that_change_the_mode_and_write_behind_it(self):
        self.told("raw and writing behind", misstop=(1, 2), misbreak=(1, 2), unasked=(1, 3), overwrite=(1, 4),
                  leftraw=(1, 4))
        self.told("raw by one, written by another", misstop=(1, 2), misbreak=(1, 2), unasked=(1, 3), overwrite=(2, 5),
                  leftraw=(1, 4))

    def test_a_shell_that_makes_the_terminal_plain(self):
        self.told("written plain", misstop=(1, 2), misbreak=(1, 2), unasked=(1, 3), overwrite=(2, 5), leftraw=(1, 4))

    def test_jobs_that_take_the_front_by_themselves(self):
        self.told("takes the front", misstop=(1, 2), misbreak=(1, 2), locked=(1, 4))

    def test_jobs_that_hold(self):
        self.told("held", misread=(1, 3), misstop=(1, 2), misbreak=(1, 2))

    def test_jobs_that_wait_to_read(self):
        self.told("waits to read", misread=(1, 2), misstop=(1, 2), misbreak=(1, 2))

    def test_one_job_alone(self):
        self.told("stuck", misstop=(1, 2), misbreak=(1, 2), deafwait=(1, 3))

    def test_three_jobs(self):
        self.told("three jobs, few steps", misstop=(1, 2), misbreak=(1, 2), unasked=(3, 10), locked=(1, 4))
        self.told("three jobs, four steps", misstop=(1, 2), misbreak=(1, 2), unasked=(3, 12), locked=(1, 6),
                  deafwait=(1, 3))


class Papers(unittest.TestCase):

    def test_they_agree_with_a_plain_search_over_runs(self):
        names = ("worked", "never takes the front back", "does nothing", "gives the front away", "waits", "held",
                 "waits to read", "stuck", "takes the front", "raw and writing behind", "written plain")
        for name in names:
            setup = SETUPS[name]
            first = plain.reached(setup, 2 if name in ("worked", "held", "waits", "stuck", "does nothing") else 1)[1]
            for wrong in WRONGS:
                told = fewest(setup, wrong)
                if wrong in first:
                    self.assertEqual(told, first[wrong], (name, wrong))
                elif told is not None:
                    self.assertEqual((name, wrong, told), ("written plain", "overwrite", (2, 5)))

    def test_each_is_one_and_agrees_with_the_rest(self):
        more = [("long alone", LONG_ALONE), ("in front, and none of a script", BESIDE)]
        for name, setup in list(SETUPS.items()) + list(SMALL.items()) + more:
            ready = table(setup)
            come = wrongs_of(setup)
            for wrong in WRONGS:
                word, shown = paper(setup, wrong)
                self.assertEqual(check_paper(setup, wrong, (word, shown)), word, (name, wrong))
                self.assertIs(can_come(setup, wrong), word == "comes")
                self.assertIs(wrong in come, word == "comes")
                self.assertIs(bars(setup, wrong, ready), word == "never")
                if word == "comes":
                    self.assertIs(is_play(setup, shown), True)
                    self.assertEqual(trace(setup, shown)[-1], wrong)
                    self.assertEqual(fewest(setup, wrong), (starts(shown), len(shown)))
                else:
                    self.assertIs(fewest(setup, wrong), None)
                    self.assertEqual(check_paper(setup, wrong, ("never", ready)), "never")

    def test_a_job_in_front_that_no_script_is_done_for(self):
        # The first job writes behind the second one, which sets the mode when the shell has given it the front.
        self.assertEqual(fewest(BESIDE, "overwrite"), (2, 6))
        self.assertEqual(wrongs_of(BESIDE), ("misstop", "misbreak", "unasked", "overwrite", "locked"))
        word, shown = paper(BESIDE, "overwrite")
        self.assertEqual((word, trace(BESIDE, shown)[-1], len(shown)), ("comes", "overwrite", 6))
        self.assertEqual(plain.reached(BESIDE, 2)[1]["overwrite"], (2, 6))

    def test_what_comes_by_other_jobs_of_small_setups(self):
        for name, setup in SMALL.items():
            words = plain.closed(setup, plain.table(setup))[1]
            self.assertEqual(wrongs_of(setup), tuple([wrong for wrong in WRONGS if wrong in words]), name)
        self.assertEqual(wrongs_of(SMALL["stays in front"]), ("misstop", "misbreak", "locked"))

    def test_the_fewest_jobs_go_first(self):
        self.assertEqual(trace(LONG_ALONE, BY_TWO)[-1], "overwrite")
        self.assertEqual(fewest(LONG_ALONE, "overwrite"), (1, 7))
        self.assertEqual(check_paper(LONG_ALONE, "overwrite", ("comes", ALONE)), "comes")
        with self.assertRaises(BadPaper) as told:
            check_paper(LONG_ALONE, "overwrite", ("comes", BY_TWO))
        self.assertEqual(told.exception.place, ("run",))

    def test_the_fewest_jobs_are_counted_by_their_starts(self):
        # The first job may have left before the second one starts; it counts all the same.
        setup = SETUPS["raw by one, written by another"]
        word, shown = paper(setup, "overwrite")
        self.assertEqual((word, starts(shown), len(shown)), ("comes", 2, 5))


class Checks(unittest.TestCase):

    def bad(self, setup, wrong, shown, *place):
        with self.assertRaises(BadPaper) as told:
            check_paper(setup, wrong, shown)
        self.assertEqual(repr(told.exception.place), repr(place))

    def test_the_form(self):
        run = paper(WORKED, "unasked")[1]
        for thing in THINGS + [run, ("comes",), ("comes", run, run), ["comes", run], (run, "comes"), "comes",
                               ("Comes", run), ("come", run), ("", run), (None, run), (0, run), ("fewest", run)]:
            self.bad(WORKED, "unasked", thing, "form")
        for thing in NEITHER + [0, 1, True, "", [], list(run), {}]:
            self.bad(WORKED, "unasked", (thing, run), "form")
            if not isinstance(thing, tuple):
                self.bad(WORKED, "unasked", ("comes", thing), "form")
                self.bad(WORKED, "unasked", ("never", thing), "form")

    def test_any_run_as_short_will_do(self):
        for run in ((("back", 0), ("stop", 0)),):
            self.assertEqual(check_paper(WORKED, "misstop", ("comes", run)), "comes")
        for run in ((("fore", 1), ("shell",), ("shell",)), (("fore", 0), ("stop", 0)), (("back", 0), ("break", 0))):
            self.bad(WORKED, "misstop", ("comes", run), "run")
        setup = SETUPS["raw by one, written by another"]
        for first, second in (("fore", "back"), ("back", "fore"), ("back", "back")):
            run = ((first, 0), ("job", 0), ("shell",), (second, 1), ("shell",), ("job", 1))
            self.assertEqual(is_play(setup, run), first == "back")
            self.bad(setup, "overwrite", ("comes", run), "run")

    def test_runs_that_are_too_long(self):
        run = (("fore", 0), ("shell",), ("job", 0))
        self.assertEqual(check_paper(WORKED, "unasked", ("comes", run)), "comes")
        for longer in ((LOOK,) + run, run[:1] + (LOOK,) + run[1:], run + (LOOK,), run + (("shell",),),
                       (("back", 0), ("shell",)) + (("fore", 0), ("shell",), ("job", 1))):
            self.bad(WORKED, "unasked", ("comes", longer), "run")
        self.bad(WORKED, "unasked", ("comes", (LOOK,) * 300 + run), "run")
        self.bad(WORKED, "unasked", ("comes", (LOOK,) * 100000 + run), "run")

    def test_runs_that_are_none(self):
        self.bad(WORKED, "unasked", ("comes", ()), "run")
        for thing in THINGS:
            for at in range(3):
                run = put((("fore", 0), ("shell",), ("job", 0)), at, thing)
                self.bad(WORKED, "unasked", ("comes", run), "run")
        for run in ((("fore", 0), ("job", 0), ("shell",)), (("fore", 1), ("shell",), ("job", 0)),
                    (("fore", 0), ("shell",), ("job", 1)), (("fore", 0), ("shell",), ("job", False)),
                    (["fore", 0], ("shell",), ("job", 0)), (("shell",), ("fore", 0), ("job", 0))):
            self.bad(WORKED, "unasked", ("comes", run), "run")

    def test_runs_to_another_wrong(self):
        for wrong, key in (("misread", "line"), ("misstop", "stop"), ("misbreak", "break")):
            run = (("back", 0), (key, 0))
            for other in WRONGS:
                if other == wrong:
                    self.assertEqual(check_paper(WORKED, other, ("comes", run)), "comes")
                else:
                    self.bad(WORKED, other, ("comes", run), "run")
        # The WRONG has to be the last EVENT.
        self.bad(WORKED, "misread", ("comes", (("back", 0), ("line", 0), ("stop", 0))), "run")
        self.bad(WORKED, "misread", ("comes", (("back", 0), ("shell",))), "run")

    def test_tables(self):
        ready = table(WORKED)
        self.assertEqual(check_paper(WORKED, "locked", ("never", ready)), "never")
        for at in range(0, len(ready), 7):
            self.bad(WORKED, "locked", ("never", ready[:at] + ready[at + 1:]), "table")
        self.bad(WORKED, "locked", ("never", ()), "table")
        self.bad(WORKED, "locked", ("never", ready[::-1]), "table")
        self.bad(WORKED, "locked", ("never", ready + ready[-1:]), "table")
        self.bad(WORKED, "unasked", ("never", ready), "table")
        self.bad(SETUPS["held"], "locked", ("never", ready), "table")
        for thing in THINGS:
            self.bad(WORKED, "locked", ("never", (thing,)), "table")
            self.bad(WORKED, "locked", ("never", ready + (thing,)), "table")
        wide = tuple(sorted(ready + (("none", 0, "nobody", "plain", ()),)))
        self.bad(WORKED, "locked", ("never", wide), "table")
        self.assertEqual(check_paper(WORKED, "leftraw", ("never", wide)), "never")

    def test_a_run_is_no_table_and_a_table_is_no_run(self):
        ready = table(WORKED)
        self.bad(WORKED, "locked", ("comes", ready), "run")
        self.bad(WORKED, "unasked", ("never", (("fore", 0), ("shell",), ("job", 0))), "table")


class Calls(unittest.TestCase):

    def test_bad_setups_come_first(self):
        bad = [((), thing) for thing in NEITHER + [(), (0,), ("group",), 5, True, "fore"]]
        bad += [(("kinds",), put(WORKED, 0, ())), (("kinds", 0), put(WORKED, 0, (("sing",),))),
                (("rules",), put(WORKED, 1, ("go",))), (("shell",), put(WORKED, 2, ())),
                (("shell", 2), put(WORKED, 2, put(WORKED[2], 2, None)))]
        for place, setup in bad:
            for call in (lambda: can_come(setup, None), lambda: fewest(setup, None), lambda: paper(setup, None),
                         lambda: check_paper(setup, None, None), lambda: wrongs_of(setup)):
                with self.assertRaises(BadSetup) as told:
                    call()
                self.assertEqual(told.exception.place, place)

    def test_bad_wrongs_come_next(self):
        for wrong in THINGS + ["", "Misread", "misread ", ("misread",), "none", "take", 7]:
            if isinstance(wrong, str) and wrong in WRONGS:
                continue
            for call in (lambda: can_come(WORKED, wrong), lambda: fewest(WORKED, wrong), lambda: paper(WORKED, wrong),
                         lambda: check_paper(WORKED, wrong, None), lambda: check_paper(WORKED, wrong, ("comes", ()))):
                with self.assertRaises(BadWrong) as told:
                    call()
                self.assertIs(told.exception.wrong, wrong)

    def test_by_names(self):
        told = paper(wrong="unasked", setup=WORKED)
        self.assertEqual(check_paper(paper=told, wrong="unasked", setup=WORKED), "comes")
        self.assertIs(can_come(wrong="locked", setup=WORKED), False)
        self.assertEqual(fewest(wrong="unasked", setup=WORKED), (1, 3))
        self.assertEqual(wrongs_of(setup=WORKED), wrongs_of(WORKED))

    def test_what_is_passed_stays_and_equal_calls_tell_equal_things(self):
        for setup in (WORKED, SETUP, LONG_ALONE):
            before = copy.deepcopy(setup)
            for wrong in WRONGS:
                told = paper(setup, wrong)
                kept = copy.deepcopy(told)
                check_paper(setup, wrong, told)
                self.assertEqual(repr(told), repr(kept))
                self.assertEqual(repr(paper(setup, wrong)), repr(kept))
                self.assertEqual(fewest(setup, wrong), fewest(setup, wrong))
            self.assertEqual(repr(setup), repr(before))

    def test_the_kinds_of_what_is_told(self):
        for setup in (WORKED, SETUP):
            self.assertIsInstance(wrongs_of(setup), tuple)
            for wrong in WRONGS:
                self.assertIn(can_come(setup, wrong), (True, False))
                self.assertIsInstance(can_come(setup, wrong), bool)
                self.assertIsInstance(fewest(setup, wrong), (tuple, None.__class__))
                self.assertEqual([part.__class__ for part in paper(setup, wrong)], [str, tuple])

    def test_the_largest_setups_in_time(self):
        for name, setup in LARGEST.items():
            began = time.monotonic()
            come = wrongs_of(setup)
            self.assertLess(time.monotonic() - began, 5, name)
            for wrong in WRONGS:
                shown = paper(setup, wrong)
                for call in (lambda: can_come(setup, wrong), lambda: fewest(setup, wrong),
                             lambda: paper(setup, wrong), lambda: check_paper(setup, wrong, shown)):
                    began = time.monotonic()
                    call()
                    self.assertLess(time.monotonic() - began, 5, name)
                self.assertEqual(check_paper(setup, wrong, shown), "comes" if wrong in come else "never")
        self.assertEqual(fewest(LARGEST["three jobs"], "unasked"), (3, 15))
        self.assertEqual(fewest(LARGEST["a long way"], "overwrite"), (2, 36))


if __name__ == "__main__":
    unittest.main()
