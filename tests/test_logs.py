import copy
import random
import time
import unittest

import plain
from cases import setup_of, shell_of
from frontjobs.errors import BadLog, BadPlay, BadQuestion, BadSetup, TooMany
from frontjobs.logs import fits, fitting, may, must, need_log, visible
from frontjobs.plays import is_play, trace
from frontjobs.setups import WRONGS
from samples import KINDS, NEITHER, SETUP, THINGS, put
from shells import SETUPS, SHELL, WORKED

LOOK = ("look",)
STEP = ("shell",)

# Chance led here: many jobs that take the front unseen, and a shell with much to do.
LARGE = ((("front",) * 5,), ("wait", "go", "stop"), (
    ("group", "take", "plain"), ("group", "group", "plain"), ("plain", "give", "take", "plain", "go"),
    ("plain", "give", "plain", "take", "plain", "group")))
LARGE_LOG = (("fore", 0), ("fore", 0), ("front", 1), ("back", 0), ("behind", 0), ("front", 0)) + tuple(
    [("behind" if int(sign) > 2 else "front", int(sign) % 3) for sign in "255114105545411541025531112500015103015555102011"])


class LogTest(unittest.TestCase):

    def told(self, setup, log, fitted, may_have=(), must_have=()):
        self.assertIs(fits(setup, log), fitted)
        self.assertEqual(may(setup, log), may_have)
        self.assertEqual(must(setup, log), must_have)
        self.assertEqual(plain.told(setup, log), (fitted, may_have, must_have))


class Visible(LogTest):

    def sees(self, setup, play, *want):
        self.assertIs(is_play(setup, play), True)
        self.assertEqual(repr(visible(setup, play)), repr(want))

    def test_what_is_not_visible(self):
        self.sees(WORKED, ())
        self.sees(WORKED, (LOOK, LOOK))
        self.sees(WORKED, (("fore", 0), STEP, LOOK, STEP, LOOK), ("fore", 0))
        self.sees(SETUPS["does nothing"], (("fore", 0), ("break", 0), ("hear", 0)), ("fore", 0), ("break", 0))

    def test_acts_that_are_not_visible(self):
        setup = setup_of(("group", "front", "hold", "again"), rules=("stop", "go", "go"), shell=shell_of())
        job = ("job", 0)
        self.sees(setup, (("fore", 0), job, job, job, job, job), ("fore", 0))

    def test_acts_that_are(self):
        setup = setup_of(("write", "raw", "plain"), rules=("fail", "go", "go"), shell=shell_of())
        job = ("job", 0)
        self.sees(setup, (("fore", 0), job, job, job), ("fore", 0), job, job, job)
        reader = setup_of(("group", "read"), rules=("fail", "go", "go"), shell=shell_of())
        self.sees(reader, (("back", 0), job, job), ("back", 0), job)

    def test_an_act_by_which_a_job_stops(self):
        job = ("job", 0)
        for act in ("read", "write", "raw", "plain"):
            setup = setup_of(("group", act), shell=shell_of())
            self.sees(setup, (("back", 0), job, job), ("back", 0), job)
        # The ACT is "front" all the same.
        setup = setup_of(("group", "front"), shell=shell_of())
        self.sees(setup, (("back", 0), job, job), ("back", 0))

    def test_the_end_of_a_job_is_visible(self):
        job = ("job", 0)
        for act in ("group", "front", "hold"):
            setup = setup_of((act,), shell=shell_of())
            self.sees(setup, (("back", 0), job, job), ("back", 0), job)

    def test_starts_scripts_and_keys_are_visible(self):
        setup = setup_of(("read",), shell=shell_of())
        play = (("fore", 0), ("back", 0), ("front", 1), ("behind", 0), ("line", 0), ("stop", 0), ("break", 1))
        self.sees(setup, play, *play)

    def test_the_jobs_keep_their_numbers(self):
        setup = setup_of(("hold",), ("write",), rules=("stop", "go", "go"), shell=shell_of())
        play = (("fore", 0), ("back", 1), ("job", 0), ("job", 1), ("job", 0), ("job", 1), LOOK)
        self.sees(setup, play, ("fore", 0), ("back", 1), ("job", 1), ("job", 0), ("job", 1))

    def test_bad_play(self):
        for thing in THINGS + [(STEP,), (LOOK,) * 301, [LOOK]]:
            if isinstance(thing, tuple) and len(thing) == 0:
                continue
            with self.assertRaises(BadPlay):
                visible(WORKED, thing)
        with self.assertRaises(BadPlay) as told:
            visible(WORKED, (("fore", 0), ("job", 0)))
        self.assertEqual(told.exception.place, (1,))


class NeedLog(unittest.TestCase):

    def bad(self, setup, thing, *place):
        for call in (need_log, fits, may, must):
            with self.assertRaises(BadLog) as told:
                call(setup, thing)
            self.assertEqual(repr(told.exception.place), repr(place))
        with self.assertRaises(BadLog) as told:
            fitting((setup,), thing)
        self.assertEqual(repr(told.exception.place), repr(place))

    def good(self, setup, *things):
        for thing in things:
            self.assertIs(need_log(setup, thing), thing)

    def test_some(self):
        self.good(SETUP, (), (("fore", 0), ("back", 2), ("front", 0), ("behind", 999), ("job", 10 ** 999), ("line", 1),
                              ("stop", 0), ("break", 0)), (("fore", 0),) * 60)

    def test_what_is_no_tuple_of_at_most_60(self):
        for thing in THINGS:
            if not isinstance(thing, tuple):
                self.bad(SETUP, thing)
        for many in (61, 62, 300):
            self.bad(SETUP, (("stop", 0),) * many)
        self.bad(SETUP, (None,) * 61)
        self.bad(SETUP, [("stop", 0)])

    def test_the_first_item_that_cannot_be_visible(self):
        for thing in THINGS + [LOOK, STEP, ("hear", 0), ("fore",), ("stop",), ("stop", 0, 0), ["stop", 0], ("Stop", 0),
                               ("sing", 0), (0, "stop"), ("stop", -1), ("stop", True), ("stop", False), ("stop", 0.0),
                               ("stop", "0"), ("stop", None), ("fore", 3), ("back", 3), ("fore", -1), ("fore", True)]:
            for ahead in ((), (("fore", 0),), (("job", 7),) * 59):
                self.bad(SETUP, ahead + (thing,), len(ahead))
            self.bad(SETUP, (("stop", 0), thing, None), 1)

    def test_the_number_of_a_kind(self):
        for many in (1, 2, 3):
            setup = put(SETUP, 0, KINDS[:many])
            for word in ("fore", "back"):
                self.good(setup, *[((word, kind),) for kind in range(many)])
                self.bad(setup, ((word, many),), 0)
                self.bad(setup, ((word, 10 ** 999),), 0)


class Fits(LogTest):

    def test_the_empty_log(self):
        for setup in SETUPS.values():
            self.told(setup, (), True)

    def test_what_must_have_come(self):
        self.told(WORKED, (("fore", 0), ("job", 0)), True, ("unasked",), ("unasked",))
        self.told(WORKED, (("back", 0), ("stop", 0)), True, ("misstop",), ("misstop",))
        self.told(WORKED, (("back", 0), ("line", 0), ("break", 0)), True, ("misread", "misbreak"), ("misread", "misbreak"))

    def test_what_cannot_have_come(self):
        self.told(WORKED, (("fore", 0), ("stop", 0)), True)
        self.told(WORKED, (("fore", 0), ("line", 0), ("break", 0)), True)
        self.told(WORKED, (("back", 0), ("job", 0)), True)

    def test_what_may_have_come(self):
        setup = put(WORKED, 2, (("group", "give"),) + SHELL[1:])
        # The key may come ahead of the last STEP, or behind it.
        self.told(setup, (("fore", 0), ("stop", 0)), True, ("misstop",))
        self.told(setup, (("fore", 0), ("stop", 0), ("front", 0)), False)

    def test_what_does_not_fit(self):
        for log in ((("job", 0),), (("stop", 0),), (("front", 0),), (("fore", 0), ("job", 1)), (("fore", 0),) * 2,
                    (("fore", 0), ("stop", 10 ** 999)), (("back", 0), ("job", 0), ("line", 0)),
                    (("back", 0), ("job", 0), ("job", 0)), (("fore", 0), ("front", 0))):
            self.told(WORKED, log, False)

    def test_what_is_not_seen_comes_between_and_ahead(self):
        # The shell gives the front away unseen, else the line would be no job's.
        setup = setup_of(("group", "read"), rules=("stop", "go", "go"), shell=shell_of(fore=("listen", "take")))
        self.told(setup, (("fore", 0), ("line", 0)), False)
        given = put(setup, 2, shell_of(fore=("give", "listen", "take")))
        self.told(given, (("fore", 0), ("line", 0)), True)

    def test_what_is_not_seen_may_be_a_wrong(self):
        setup = setup_of(("front",), shell=shell_of(fore=("group", "listen", "take")))
        # Only the job's stop, which nobody sees, lets the shell go on.
        self.told(setup, (("fore", 0), ("front", 0)), True, ("unasked",), ("unasked",))

    def test_what_is_not_seen_behind_the_last_event_does_not_count(self):
        setup = setup_of(("front",), shell=shell_of(fore=("group", "listen", "take")))
        self.told(setup, (("fore", 0),), True)
        self.told(setup, (("fore", 0), ("stop", 0)), True)

    def test_looks_do_not_count(self):
        setup = SETUPS["never takes the front back"]
        play = (("fore", 0), STEP, STEP, ("stop", 0), STEP, LOOK)
        self.assertEqual(trace(setup, play)[-1], "locked")
        self.told(setup, visible(setup, play), True)
        for setup in SETUPS.values():
            for log in ((("fore", 0),), (("back", 0), ("stop", 0)), (("fore", 0), ("break", 0))):
                self.assertEqual([wrong for wrong in may(setup, log) if wrong in WRONGS[5:]], [])

    def test_a_jobs_end_is_seen(self):
        setup = setup_of(("hold",), shell=shell_of(fore=("wait",)))
        self.told(setup, (("fore", 0), ("back", 0)), False)
        self.told(setup, (("fore", 0), ("job", 0), ("back", 0)), True)
        self.told(setup, (("fore", 0), ("job", 0), ("job", 0)), False)

    def test_a_hearing_is_not_seen(self):
        setup = setup_of(("hold",), shell=shell_of())
        self.told(setup, (("fore", 0), ("job", 0), ("front", 0)), True)
        self.told(setup, (("fore", 0), ("stop", 0), ("front", 0)), True, ("misstop",), ("misstop",))

    def test_acts_of_which_nobody_sees_where_they_lead(self):
        setup = setup_of(("write", "read", "again"), shell=shell_of())
        log = (("back", 0), ("job", 0), ("line", 0), ("job", 0), ("line", 0))
        self.told(setup, log, True, ("misread",), ("misread",))
        self.told(setup, log[:3] + log[4:], False)
        self.told(setup, log[:2] + log[3:], False)

    def test_a_job_that_has_held_goes_on_so(self):
        log = (("back", 0), ("job", 0), ("job", 0))
        for acts in (("hold", "group"), ("group", "hold", "group")):
            # Behind, it may write as it has HELD: it does not STOP by the first ACT that is seen.
            setup = setup_of(acts + ("write", "write"), shell=shell_of())
            self.told(setup, log, True)
            self.told(setup, log + (("job", 0),), True)
            self.told(setup, log + (("job", 0),) * 2, False)
        self.told(setup_of(("group", "group", "write", "write"), shell=shell_of()), log, False)

    def test_three_jobs(self):
        setup = setup_of(("read",), ("write",), shell=shell_of(back=("group",), front=("give", "go")))
        log = (("back", 0), ("back", 1), ("back", 0), ("job", 0), ("job", 1), ("front", 0), ("line", 0))
        self.told(setup, log, True, ("misread",), ("misread",))
        self.told(setup, put(log, 6, ("line", 2)), False)
        self.told(setup, put(log, 6, ("job", 2)), True)

    def test_of_chance(self):
        chance = random.Random(11)
        for number in range(300):
            setup = plain.chance_setup(chance)
            play = plain.chance_run(chance, setup, chance.randrange(16))
            log = visible(setup, play)
            if number % 3 == 0 and log:
                at = chance.randrange(len(log))
                log = log[:at] + chance.choice([(), (("stop", 1),), (("job", 0),), log[at:at + 1] * 2]) + log[at + 1:]
            if len([event for event in log if event[0] in ("fore", "back")]) <= 3:
                self.assertEqual((fits(setup, log), may(setup, log), must(setup, log)), plain.told(setup, log))
            if number % 3:
                self.assertIs(fits(setup, log), True)
                come = [wrong for wrong in trace(setup, play[:len(play) - behind_last(setup, play)]) if wrong]
                self.assertEqual([wrong for wrong in come if wrong not in may(setup, log)], [])
                self.assertEqual([wrong for wrong in must(setup, log) if wrong not in come], [])


def behind_last(setup, play):
    """How many EVENTs stand behind the last VISIBLE one."""
    many = 0
    while many < len(play) and visible(setup, play[:len(play) - many - 1]) == visible(setup, play):
        many += 1
    return many


class TooManyStarts(unittest.TestCase):

    def test_at_most_three(self):
        setup = setup_of(("read",), ("hold",), shell=shell_of())
        log = (("fore", 0), ("back", 1), ("fore", 1))
        self.assertIs(fits(setup, log), True)
        for more in (log + (("fore", 0),), log + (("stop", 0), ("back", 0)), (("job", 5),) + log + (("back", 1),) * 3):
            self.assertIs(need_log(setup, more), more)
            for call in (lambda: fits(setup, more), lambda: may(setup, more), lambda: must(setup, more),
                         lambda: fitting((setup, setup), more)):
                with self.assertRaises(TooMany) as told:
                    call()
                self.assertEqual(told.exception.most, 3)

    def test_bad_log_comes_first(self):
        for thing in ((("fore", 0),) * 4 + (None,), (("fore", 0),) * 61, (("fore", 0),) * 4 + (("fore", 3),)):
            for call in (fits, may, must):
                with self.assertRaises(BadLog):
                    call(SETUP, thing)
            with self.assertRaises(BadLog):
                fitting((SETUP,), thing)


class Fitting(unittest.TestCase):

    LOG = (("fore", 0), ("job", 0))
    FAILS = put(WORKED, 1, ("fail", "go", "stop"))
    WAITS = put(WORKED, 1, ("wait", "go", "stop"))

    def test_the_numbers_of_those_that_fit(self):
        self.assertEqual(fitting((WORKED,), self.LOG), [0])
        self.assertEqual(fitting((self.WAITS,), self.LOG), [])
        self.assertEqual(fitting((self.WAITS, WORKED, self.FAILS, self.WAITS, WORKED, self.FAILS), self.LOG), [1, 2, 4, 5])
        self.assertEqual(fitting((WORKED,) * 6, ()), [0, 1, 2, 3, 4, 5])
        still = put(WORKED, 2, ((), (), (), ()))
        self.assertEqual(fitting((still, WORKED), self.LOG), [1])

    def test_just_those_that_fit_by_themselves(self):
        chance = random.Random(5)
        for _ in range(40):
            setups = [plain.chance_setup(chance) for _ in range(chance.randint(1, 6))]
            setups = tuple([put(setup, 0, setups[0][0]) for setup in setups])
            log = visible(setups[0], plain.chance_run(chance, setups[0], 8))
            want = [number for number, setup in enumerate(setups) if fits(setup, log)]
            self.assertEqual(fitting(setups, log), want)
            self.assertIn(0, want)

    def test_no_tuple_of_one_to_six(self):
        for thing in NEITHER + [0, True, (), [WORKED], (WORKED,) * 7, (None,) * 7, "setups", {WORKED: 1}]:
            if isinstance(thing, tuple) and len(thing) == 1:
                continue
            with self.assertRaises(BadQuestion):
                fitting(thing, None)

    def test_bad_setups_come_next(self):
        for at in range(6):
            for place, bad in (((), None), ((), ()), ((), list(WORKED)), (("kinds",), put(WORKED, 0, ())),
                               (("rules",), put(WORKED, 1, None)), (("shell", 1), put(WORKED, 2, put(SHELL, 1, 5)))):
                # The first one is told, ahead of unlike KINDS.
                setups = put((WORKED,) * 6, at, bad)[:at + 1] + (None, SETUP)[:5 - at]
                with self.assertRaises(BadSetup) as told:
                    fitting(setups, None)
                self.assertEqual(told.exception.place, place)

    def test_unlike_kinds(self):
        for setups in ((WORKED, SETUP), (WORKED, WORKED, SETUP), (SETUP, WORKED),
                       (WORKED, put(WORKED, 0, (("read",), ("read",)))), (WORKED, put(WORKED, 0, (("write",),)))):
            for log in (self.LOG, None, 5, (("fore", 0),) * 4):
                with self.assertRaises(BadQuestion):
                    fitting(setups, log)


class Calls(unittest.TestCase):

    def test_bad_setups_come_first(self):
        for place, setup in (((), None), ((), WORKED[:2]), (("kinds", 0), put(WORKED, 0, ((),))),
                             (("rules",), put(WORKED, 1, ())), (("shell",), put(WORKED, 2, None))):
            for call in (visible, need_log, fits, may, must):
                with self.assertRaises(BadSetup) as told:
                    call(setup, None)
                self.assertEqual(told.exception.place, place)

    def test_by_names(self):
        log = (("fore", 0), ("job", 0))
        self.assertEqual(visible(play=(("fore", 0), STEP), setup=WORKED), (("fore", 0),))
        self.assertIs(need_log(thing=log, setup=WORKED), log)
        self.assertIs(fits(log=log, setup=WORKED), True)
        self.assertEqual((may(log=log, setup=WORKED), must(log=log, setup=WORKED)), (("unasked",), ("unasked",)))
        self.assertEqual(fitting(log=log, setups=(WORKED,)), [0])

    def test_what_is_passed_stays_and_what_is_told_is_the_callers_own(self):
        log = (("fore", 0), ("job", 0))
        setups = (WORKED, WORKED)
        before = copy.deepcopy((setups, log))
        told = fitting(setups, log)
        told.append(7)
        self.assertEqual(fitting(setups, log), [0, 1])
        self.assertEqual((may(WORKED, log), may(WORKED, log)), (("unasked",),) * 2)
        self.assertEqual(repr((setups, log)), repr(before))

    def test_the_largest_in_time(self):
        chance = random.Random(3)
        rows = [(LARGE, LARGE_LOG)]
        for _ in range(20):
            setup = plain.chance_setup(chance, 5, 6)
            rows.append((setup, visible(setup, plain.chance_run(chance, setup, 300))[:60]))
        for setup, log in rows:
            for call in (lambda: fits(setup, log), lambda: may(setup, log), lambda: must(setup, log),
                         lambda: visible(setup, plain.chance_run(chance, setup, 300))):
                began = time.monotonic()
                call()
                self.assertLess(time.monotonic() - began, 10)
            self.assertIs(fits(setup, log), True)
        began = time.monotonic()
        setups = [put(LARGE, 1, (reads, "go", takes)) for reads in ("stop", "fail", "wait") for takes in ("go", "stop")]
        self.assertEqual(len(fitting(tuple(setups), LARGE_LOG[:40])), 6)
        self.assertLess(time.monotonic() - began, 20)


if __name__ == "__main__":
    unittest.main()
