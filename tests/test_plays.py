import copy
import unittest

from cases import job, setup_of, standing
from frontjobs.errors import BadPlay, BadSetup
from frontjobs.events import events_at, step
from frontjobs.plays import MOST_PLAY, is_play, last_standing, need_play, trace
from frontjobs.standings import START, is_standing
from samples import KINDS, NEITHER, RULES, SETUP, SHELL, THINGS, put

WORKED_SHELL = (("group", "give", "listen", "take"), ("group",), ("give", "go", "listen", "take"), ("go",))
WORKED = ((("read",),), ("stop", "go", "stop"), WORKED_SHELL)

SHORT = (("fore", 0), ("shell",), ("job", 0))
LOOK = ("look",)


class PlayTest(unittest.TestCase):

    def plays(self, setup, play, wrongs, last):
        """That it is a PLAY with this TRACE and this STANDING behind it."""
        self.assertIs(is_play(setup, play), True)
        self.assertIs(need_play(setup, play), play)
        self.assertEqual(trace(setup, play), wrongs)
        self.assertEqual(repr(last_standing(setup, play)), repr(last))

    def bad(self, setup, thing, *place):
        self.assertIs(is_play(setup, thing), False)
        for call in (need_play, trace, last_standing):
            with self.assertRaises(BadPlay) as told:
                call(setup, thing)
            self.assertEqual(repr(told.exception.place), repr(place))


class Example(PlayTest):

    def test_the_run_that_cannot_be_done(self):
        self.bad(WORKED, (("fore", 0), ("job", 0)), 1)

    def test_the_run_with_a_line(self):
        self.plays(
            WORKED, (("fore", 0), ("line", 0)), (None, None), standing(job(place=1), script="fore", hand=0))

    def test_the_worked_trace(self):
        told = trace(WORKED, (("fore", 0), ("shell",), ("job", 0)))
        self.assertEqual(repr(told), "(None, None, 'unasked')")
        stopped = job(own=True, state="stopped", notice="stop")
        self.plays(WORKED, SHORT, (None, None, "unasked"), standing(stopped, script="fore", place=1, hand=0))


class Plays(PlayTest):

    def test_the_empty_play(self):
        self.plays(WORKED, (), (), START)

    def test_it_goes_from_start_on(self):
        self.plays(WORKED, (LOOK,), (None,), START)
        self.bad(WORKED, (("shell",),), 0)
        self.bad(WORKED, (("job", 0),), 0)

    def test_one_event_behind_another(self):
        play = SHORT + (
            ("shell",), LOOK, ("shell",), ("shell",), ("hear", 0), ("front", 0), ("shell",), ("shell",), ("stop", 0))
        self.bad(WORKED, play, 7)
        play = put(play, 7, LOOK)
        stopped = job(own=True, state="stopped", notice="stop")
        last = standing(stopped, script="front", place=2, hand=0, front=0)
        self.plays(WORKED, play, (None, None, "unasked") + (None,) * 9, last)

    def test_every_wrong_stands_in_a_trace(self):
        self.plays(WORKED, (("back", 0), ("line", 0)), (None, "misread"),
                   standing(job(place=1), script="back", hand=0))
        self.plays(WORKED, (("back", 0), ("stop", 0)), (None, "misstop"),
                   standing(job(state="stopped", notice="stop"), script="back", hand=0))
        self.plays(WORKED, (("back", 0), ("break", 0)), (None, "misbreak"),
                   standing(job(state="ended", notice="end"), script="back", hand=0))
        self.plays(WORKED, SHORT, (None, None, "unasked"), last_standing(WORKED, SHORT))
        locks = setup_of(("raw",), rules=("stop", "go", "go"), shell=(("group", "give"), ("group",), ("wait",), ()))
        owner = job(own=True)
        self.plays(locks, (("fore", 0), ("shell",), ("shell",), LOOK), (None, None, None, "locked"),
                   standing(owner, front=0))
        self.plays(locks, (("back", 0), ("job", 0), ("shell",), LOOK), (None, None, None, "leftraw"),
                   standing(job(place=1, own=True), mode="raw"))
        waits = (("back", 0), ("stop", 0), ("shell",), ("front", 0), LOOK)
        self.plays(locks, waits, (None, "misstop", None, None, "deafwait"),
                   standing(job(own=True, state="stopped", notice="stop"), script="front", hand=0))
        writes = setup_of(("group", "raw", "write"), rules=("stop", "go", "go"), shell=((), (), (), ()))
        self.plays(writes, (("back", 0), ("job", 0), ("job", 0), ("job", 0)), (None, None, None, "overwrite"),
                   standing(job(place=3, own=True), mode="raw"))

    def test_a_trace_has_every_wrong_at_its_place(self):
        play = (("back", 0), ("line", 0), ("stop", 0), ("shell",), LOOK, ("hear", 0), ("back", 0), ("break", 1), LOOK)
        last = standing(
            job(place=1, own=True, state="stopped"), job(state="ended", notice="end"), script="back", hand=1)
        self.plays(WORKED, play, (None, "misread", "misstop", None, None, None, None, "misbreak", None), last)

    def test_the_jobs_are_numbered_in_the_order_in_which_they_start(self):
        shell = ((), ("wait",), (), ())
        setup = setup_of(("read",), ("hold",), shell=shell)
        play = (("fore", 1), ("back", 0), ("break", 1), ("shell",), ("fore", 0), ("job", 0), ("fore", 1))
        last = ("none", 0, "shell", "plain", -1, 4, (
            (0, job(1, 1, held=True)), (2, job(0)), (3, job(1))))
        self.plays(setup, play, (None, None, "misbreak", None, None, None, None), last)

    def test_at_most_300_events(self):
        self.assertEqual(MOST_PLAY, 300)
        for many in (299, 300):
            self.plays(WORKED, (LOOK,) * many, (None,) * many, START)
        for many in (301, 302, 1000):
            self.bad(WORKED, (LOOK,) * many)
        self.bad(WORKED, (LOOK,) * 299 + (("shell",),), 299)

    def test_300_jobs(self):
        setup = setup_of(("read",), shell=((), (), (), ()))
        jobs = tuple([(number, job()) for number in range(300)])
        self.plays(setup, (("fore", 0),) * 300, (None,) * 300, ("none", 0, "shell", "plain", -1, 300, jobs))

    def test_each_event_is_a_step(self):
        # Ever another EVENT of those that can be done.
        for setup in (WORKED, SETUP, put(SETUP, 1, ("fail", "go", "go"))):
            for stride in (1, 2, 3, 5, 7, 11):
                play, wrongs, last = (), (), START
                for number in range(60):
                    can = events_at(setup, last)
                    event = can[number * stride % len(can)]
                    last, wrong = step(setup, last, event)
                    play, wrongs = play + (event,), wrongs + (wrong,)
                self.plays(setup, play, wrongs, last)
                self.assertIs(is_standing(setup, last), True)
                self.plays(setup, play[:31], wrongs[:31], last_standing(setup, play[:31]))


class Refused(PlayTest):

    def test_what_is_no_tuple(self):
        for thing in NEITHER + [list(SHORT), [], 0, 1, True, False, "fore 0", "shell", {("fore", 0): 1}]:
            if not isinstance(thing, tuple):
                self.bad(WORKED, thing)

    def test_things_of_many_kinds(self):
        for thing in THINGS:
            if isinstance(thing, tuple) and thing:
                self.bad(WORKED, thing, 0)
            elif not isinstance(thing, tuple):
                self.bad(WORKED, thing)

    def test_too_long_is_refused_whatever_is_in_it(self):
        self.bad(WORKED, (None,) * 301)
        self.bad(WORKED, (LOOK,) * 300 + (None,))
        self.bad(WORKED, (None,) * 300, 0)

    def test_the_first_item_that_is_no_event(self):
        for at in (0, 1, 2):
            near = [0, 1, True, False, (), "look", "shell", ["look"], ("look", 0), (LOOK,), LOOK + LOOK]
            for thing in NEITHER + near:
                self.bad(WORKED, put(SHORT, at, thing), at)
                self.bad(WORKED, SHORT[:at] + (thing,), at)
                self.bad(WORKED, SHORT[:at] + (thing, None, thing), at)

    def test_the_first_item_that_cannot_be_done_there(self):
        self.bad(WORKED, SHORT[1:], 0)
        self.bad(WORKED, SHORT[:1] + SHORT, 1)
        self.bad(WORKED, SHORT + SHORT, 3)
        self.bad(WORKED, SHORT + (LOOK, LOOK, ("job", 0), ("job", 0)), 5)
        self.bad(WORKED, (("fore", 1),), 0)
        self.bad(WORKED, (("fore", 0), ("job", 1)), 1)
        self.bad(WORKED, (("fore", 0), ("line", False)), 1)
        self.bad(WORKED, (("fore", False),), 0)
        self.bad(WORKED, (LOOK,) * 299 + (("job", 0),), 299)

    def test_the_setup_is_checked_first(self):
        for call in (need_play, is_play, trace, last_standing):
            for thing in THINGS:
                for play in ((), None, SHORT):
                    with self.assertRaises(BadSetup) as told:
                        call(thing, play)
                    triple = isinstance(thing, tuple) and len(thing) == 3
                    self.assertEqual(told.exception.place, ("kinds",) if triple else ())
            for setup, place in [
                    ((KINDS, RULES), ()), ((KINDS, None, SHELL), ("rules",)),
                    ((KINDS, RULES, put(SHELL, 1, None)), ("shell", 1))]:
                with self.assertRaises(BadSetup) as told:
                    call(setup, None)
                self.assertEqual(told.exception.place, place)

    def test_by_name(self):
        self.assertIs(need_play(setup=WORKED, thing=SHORT), SHORT)
        self.assertIs(is_play(thing=SHORT, setup=WORKED), True)
        self.assertIs(is_play(setup=WORKED, thing=None), False)
        self.assertEqual(trace(play=SHORT, setup=WORKED), (None, None, "unasked"))
        self.assertEqual(last_standing(setup=WORKED, play=()), START)


class Unchanged(PlayTest):

    def test_equal_calls_tell_equal_things_and_change_nothing(self):
        for play in ((), SHORT, SHORT + (LOOK,)):
            again, kept = copy.deepcopy((WORKED, play)), repr((WORKED, play))
            for call in (need_play, is_play, trace, last_standing):
                self.assertEqual(call(WORKED, play), call(*again))
            self.assertEqual(repr((WORKED, play)), kept)

    def test_what_is_refused_is_not_changed(self):
        events = [["fore", 0], ["shell"]]
        for play, place in [(events, ()), (tuple(events), (0,)), ((("fore", 0), events), (1,))]:
            kept = repr(play)
            self.bad(WORKED, play, *place)
            self.bad(WORKED, play, *place)
            self.assertEqual(repr(play), kept)

    def test_a_trace_is_a_tuple(self):
        self.assertIsInstance(trace(WORKED, ()), tuple)
        self.assertIsInstance(trace(WORKED, SHORT), tuple)
        self.assertIsInstance(last_standing(WORKED, SHORT), tuple)


if __name__ == "__main__":
    unittest.main()
