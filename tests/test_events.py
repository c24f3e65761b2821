import copy
import unittest

from cases import STATES, EventTest, job, setup_of, shell_of, standing
from frontjobs.errors import BadEvent, BadSetup, BadStanding
from frontjobs.events import can_be_done, events_at, step
from frontjobs.standings import START, is_standing
from samples import KINDS, NEITHER, RULES, SETUP, SHELL, THINGS, put

# One EVENT of each word; those with a number have the number 0.
WORDS = ("back", "behind", "break", "fore", "front", "hear", "job", "line", "stop")
LONE = ("look", "shell")

READER = setup_of(("read",))
WRITER = setup_of(("write",))
OWNER = job(own=True)
GOES = ("go", "go", "go")


class Starting(EventTest):

    def test_a_job_of_the_kind_is_started(self):
        setup = setup_of(("read",), ("write", "write"), ("hold",))
        for word in ("fore", "back"):
            for kind in range(3):
                behind = (word, 0, "shell", "plain", 0, 1, ((0, (kind, 0, False, "runs", "none", False)),))
                self.comes(setup, START, (word, kind), behind)

    def test_its_number_is_made_and_made_grows(self):
        before = standing((2, job(own=True, state="stopped", notice="stop")), made=7)
        for word in ("fore", "back"):
            behind = (word, 0, "shell", "plain", 7, 8, before[6] + ((7, job()),))
            self.comes(READER, before, (word, 0), behind)
        before = standing(made=10 ** 999)
        self.comes(READER, before, ("fore", 0), standing(
            (10 ** 999, job()), script="fore", hand=10 ** 999, made=10 ** 999 + 1))

    def test_the_mode_stays(self):
        self.comes(READER, standing(mode="raw"), ("back", 0), standing(job(), script="back", mode="raw", hand=0))

    def test_a_script_without_steps_is_over(self):
        for word in ("fore", "back"):
            other = "back" if word == "fore" else "fore"
            setup = setup_of(("read",), shell=shell_of(**{other: GOES, "front": GOES, "behind": GOES}))
            self.comes(setup, START, (word, 0), standing(job()))
            self.comes(setup, START, (other, 0), standing(job(), script=other, hand=0))

    def test_the_shell_has_to_be_idle(self):
        for script in ("fore", "back", "front", "behind"):
            for place in range(3):
                self.refused(READER, standing(script=script, place=place), ("fore", 0), ("back", 0))

    def test_the_shell_has_to_be_in_front(self):
        for front in ("nobody", 0):
            self.refused(READER, standing(OWNER, front=front), ("fore", 0), ("back", 0))

    def test_the_number_of_a_kind(self):
        for many in (1, 2, 3):
            setup = setup_of(*[("read",)] * many)
            for word in ("fore", "back"):
                events = [(word, kind) for kind in (-1, many, many + 1, 10 ** 999, -(10 ** 999))]
                self.refused(setup, START, *events, (word, True), (word, False), (word, "0"), (word, 0.0))


class Calling(EventTest):

    def test_a_job_becomes_hand(self):
        for word in ("front", "behind"):
            for state, notice in STATES:
                for own in (True, False):
                    one = job(own=own, state=state, notice=notice)
                    before = standing((1, job()), (3, one), made=9, mode="raw")
                    behind = (word, 0, "shell", "raw", 3, 9, before[6])
                    self.comes(READER, before, (word, 3), behind)

    def test_a_script_without_steps_is_over(self):
        before = standing(OWNER)
        setup = setup_of(("read",), shell=shell_of(fore=GOES, back=GOES, behind=GOES))
        self.comes(setup, before, ("front", 0), before)
        self.comes(setup, before, ("behind", 0), standing(OWNER, script="behind", hand=0))
        setup = setup_of(("read",), shell=shell_of(fore=GOES, back=GOES, front=GOES))
        self.comes(setup, before, ("behind", 0), before)
        self.comes(setup, before, ("front", 0), standing(OWNER, script="front", hand=0))

    def test_the_shell_has_to_be_idle(self):
        for script in ("fore", "back", "front", "behind"):
            for hand in (0, -1):
                self.refused(READER, standing(OWNER, script=script, hand=hand), ("front", 0), ("behind", 0))

    def test_the_shell_has_to_be_in_front(self):
        for front in ("nobody", 0, 1):
            before = standing(OWNER, OWNER, front=front)
            self.refused(READER, before, ("front", 0), ("behind", 0), ("front", 1), ("behind", 1))


class Numbers(EventTest):

    # Every EVENT of a job can be done for one of these, so that only the number is wrong.
    BEFORE = [
        standing((1, job(notice="stop")), (4, job(own=True, notice="stop")), made=9),
        standing((1, job(own=True, notice="stop")), (4, job(notice="stop")), front=1, made=9),
        standing((1, job(place=1)), (4, job(own=True)), script="fore", hand=4, made=9)]

    def test_it_is_the_number_of_a_job_in_jobs(self):
        for before in self.BEFORE:
            for word in ("front", "behind", "hear", "job", "line", "stop", "break"):
                self.refused(READER, before, *[(word, number) for number in (0, 2, 3, 5, 9, -1, 10 ** 999)])

    def test_a_truth_value_is_none(self):
        for before in self.BEFORE + [standing(job(notice="stop"), job(notice="stop"))]:
            for word in WORDS:
                self.refused(READER, before, (word, True), (word, False))

    def test_what_is_no_integer_is_none(self):
        for before in self.BEFORE:
            for word in WORDS:
                self.refused(READER, before, *[(word, thing) for thing in ("1", 1.0, 4.0, None, (1,), "hand", b"1")])


class ShellEvents(EventTest):

    def test_an_idle_shell_does_no_step(self):
        for front in ("shell", "nobody", 0):
            self.refused(READER, standing(OWNER, front=front), ("shell",))

    def test_the_place_grows_and_behind_the_last_step_the_script_is_over(self):
        for script in ("fore", "back", "front", "behind"):
            for hand in (0, -1):
                for place in (0, 1):
                    self.comes(
                        READER, standing(OWNER, script=script, place=place, hand=hand, mode="raw", front=0),
                        ("shell",), standing(OWNER, script=script, place=place + 1, hand=hand, mode="raw", front=0))
                self.comes(
                    READER, standing(OWNER, script=script, place=2, hand=hand, mode="raw", front=0),
                    ("shell",), standing(OWNER, mode="raw", front=0))

    def test_each_script_has_its_own_steps(self):
        shell = shell_of(fore=("plain",), back=("take", "go"), front=("give", "go"), behind=("group", "go"))
        setup = setup_of(("read",), shell=shell)
        self.comes(
            setup, standing(job(), script="fore", hand=0, mode="raw", front="nobody"),
            ("shell",), standing(job(), front="nobody"))
        self.comes(
            setup, standing(job(), script="back", hand=0, mode="raw", front="nobody"),
            ("shell",), standing(job(), script="back", place=1, hand=0, mode="raw"))
        self.comes(
            setup, standing(OWNER, script="front", hand=0, front="nobody"),
            ("shell",), standing(OWNER, script="front", place=1, hand=0, front=0))
        self.comes(
            setup, standing(job(), script="behind", hand=0),
            ("shell",), standing(OWNER, script="behind", place=1, hand=0))

    def test_the_step_is_the_one_at_the_place(self):
        setup = setup_of(("read",), shell=shell_of(fore=("group", "give", "take", "plain")))
        row = [
            standing(job(), script="fore", hand=0, mode="raw"),
            standing(OWNER, script="fore", place=1, hand=0, mode="raw"),
            standing(OWNER, script="fore", place=2, hand=0, mode="raw", front=0),
            standing(OWNER, script="fore", place=3, hand=0, mode="raw"),
            standing(OWNER)]
        for before, behind in zip(row, row[1:]):
            self.comes(setup, before, ("shell",), behind)


class Hearing(EventTest):

    def test_an_ended_job_leaves(self):
        over = job(state="ended", notice="end", place=1)
        self.comes(READER, standing(OWNER, over, OWNER, made=5), ("hear", 1), standing((0, OWNER), (2, OWNER), made=5))

    def test_a_stop_is_heard(self):
        for state in ("stopped", "runs"):
            one = job(state=state, notice="stop", own=True, held=True)
            self.comes(READER, standing(OWNER, one, front=1), ("hear", 1),
                       standing(OWNER, put(one, 4, "none"), front=1))

    def test_whatever_is_in_front(self):
        one = job(state="stopped", notice="stop", own=True)
        for front in ("shell", "nobody", 0, 1):
            self.comes(READER, standing(one, OWNER, front=front, mode="raw"), ("hear", 0),
                       standing(put(one, 4, "none"), OWNER, front=front, mode="raw"))

    def test_there_has_to_be_a_notice(self):
        for state in ("runs", "stopped"):
            self.refused(READER, standing(job(state=state), job(state=state, own=True)), ("hear", 0), ("hear", 1))

    def test_the_shell_has_to_be_idle(self):
        for script in ("fore", "back", "front", "behind"):
            before = standing(
                job(state="ended", notice="end"), job(state="stopped", notice="stop"), script=script, hand=-1)
            self.refused(READER, before, ("hear", 0), ("hear", 1))
            self.refused(READER, put(before, 4, 1), ("hear", 0), ("hear", 1))


class Ending(EventTest):

    def test_a_job_without_an_act_left_ends(self):
        for script, hand in (("none", -1), ("fore", 0), ("fore", 1), ("back", 0), ("front", 0), ("behind", -1)):
            before = standing(job(place=1, held=True), OWNER, script=script, hand=hand, mode="raw")
            behind = standing(
                job(place=1, held=True, state="ended", notice="end"), OWNER, script=script, hand=hand, mode="raw")
            self.comes(READER, before, ("job", 0), behind)

    def test_nobody_is_in_front_if_it_was(self):
        one, over = job(place=1, own=True), job(place=1, own=True, state="ended", notice="end")
        self.comes(READER, standing(one, OWNER, front=0), ("job", 0), standing(over, OWNER, front="nobody"))
        self.comes(
            READER, standing(one, OWNER, front=0, script="front", hand=0), ("job", 0),
            standing(over, OWNER, front="nobody", script="front", hand=0))

    def test_else_front_stays(self):
        for own in (True, False):
            for front in ("shell", "nobody", 1):
                before = standing(job(place=1, own=own), OWNER, front=front)
                behind = standing(job(place=1, own=own, state="ended", notice="end"), OWNER, front=front)
                self.comes(READER, before, ("job", 0), behind)

    def test_a_notice_of_a_stop_gives_way(self):
        self.comes(READER, standing(job(place=1, notice="stop")), ("job", 0),
                   standing(job(place=1, state="ended", notice="end")))

    def test_the_end_of_a_kind_is_its_own_number_of_acts(self):
        setup = setup_of(("hold",), ("hold", "hold"))
        self.comes(setup, standing(job(place=1)), ("job", 0), standing(job(place=1, state="ended", notice="end")))
        self.comes(setup, standing(job(1, place=1)), ("job", 0), standing(job(1, place=2, held=True)))


class Running(EventTest):

    def test_a_job_that_does_not_run_does_nothing(self):
        for state, notice in STATES:
            for place in (0, 1):
                for own in (True, False):
                    if state != "runs" and not (state == "ended" and own):
                        before = standing(
                            job(place=place, own=own, state=state, notice=notice), front=0 if own else "shell")
                        self.refused(READER, before, ("job", 0), ("line", 0), ("stop", 0), ("break", 0))
                        self.refused(WRITER, before, ("job", 0), ("line", 0), ("stop", 0), ("break", 0))

    def test_whether_the_shell_is_idle_or_not(self):
        for script in ("none", "fore", "back", "front", "behind"):
            before = standing(job(), script=script)
            for event in (("line", 0), ("stop", 0), ("break", 0)):
                self.assertIs(can_be_done(READER, before, event), True)
            self.assertIs(can_be_done(WRITER, before, ("job", 0)), True)


class Keys(EventTest):

    # What each EVENT makes of the job, and the WRONG that it is unless the job is MEANT.
    KEYS = {
        "line": (lambda one: put(one, 1, one[1] + 1), "misread"),
        "stop": (lambda one: put(put(one, 3, "stopped"), 4, "stop"), "misstop"),
        "break": (lambda one: put(put(one, 3, "ended"), 4, "end"), "misbreak")}

    def test_of_a_job_with_own(self):
        for word, (change, wrong) in self.KEYS.items():
            for held in (True, False):
                one = job(own=True, held=held)
                before = standing(OWNER, one, front=1, mode="raw")
                front = "nobody" if word == "break" else 1
                self.comes(READER, before, (word, 1), standing(OWNER, change(one), front=front, mode="raw"), wrong)

    def test_of_a_job_without_own(self):
        for word, (change, wrong) in self.KEYS.items():
            self.comes(READER, standing(job(), job()), (word, 1), standing(job(), change(job())), wrong)

    def test_of_a_job_that_is_meant(self):
        for word, (change, _) in self.KEYS.items():
            for script in ("fore", "front"):
                self.comes(READER, standing(job(), script=script, hand=0), (word, 0),
                           standing(change(job()), script=script, hand=0))
                front = "nobody" if word == "break" else 0
                self.comes(READER, standing(OWNER, script=script, hand=0, front=0), (word, 0),
                           standing(change(OWNER), script=script, hand=0, front=front))

    def test_of_a_job_that_is_not_meant(self):
        for word, (_, wrong) in self.KEYS.items():
            for script, hand in (("fore", -1), ("fore", 1), ("front", 1), ("back", 0), ("behind", 0), ("none", -1)):
                before = standing(job(), job(), script=script, hand=hand)
                self.assertEqual(self.wrong_of(READER, before, (word, 0)), wrong)

    def test_it_has_to_be_in_front(self):
        events = [("line", 0), ("stop", 0), ("break", 0)]
        for script, hand in (("none", -1), ("fore", 0), ("front", 0)):
            for front in ("shell", "nobody", 1):
                self.refused(READER, standing(OWNER, OWNER, front=front, script=script, hand=hand), *events)
            for front in ("nobody", 1):
                self.refused(READER, standing(job(held=True), OWNER, front=front, script=script, hand=hand), *events)

    def test_a_line_needs_a_read(self):
        setup = setup_of(("read", "write", "group", "front", "hold"), ("raw", "plain", "again", "read"))
        reads = [(0, 0), (1, 3)]
        for kind, acts in enumerate(setup[0]):
            for place in range(len(acts) + 1):
                for own, front in ((True, 0), (False, "shell")):
                    before = standing(job(kind, place, own), front=front)
                    if (kind, place) in reads:
                        behind = standing(job(kind, place + 1, own), front=front)
                        self.comes(setup, before, ("line", 0), behind, "misread")
                    else:
                        self.refused(setup, before, ("line", 0))

    def test_the_keys_need_no_act(self):
        for word in ("stop", "break"):
            change, wrong = self.KEYS[word]
            for place in (0, 1):
                for setup in (READER, WRITER):
                    one = job(place=place)
                    self.comes(setup, standing(one), (word, 0), standing(change(one)), wrong)

    def test_whatever_the_rules(self):
        for reads in ("stop", "fail", "wait"):
            for lets in ("go", "stop"):
                setup = setup_of(("read",), rules=(reads, lets, lets))
                for word, (change, wrong) in self.KEYS.items():
                    self.comes(setup, standing(job()), (word, 0), standing(change(job())), wrong)


class Looking(EventTest):

    def looks(self, setup, before, wrong):
        self.comes(setup, before, ("look",), before, wrong)

    def test_an_idle_shell_behind_is_locked(self):
        for mode in ("plain", "raw"):
            self.looks(READER, standing(OWNER, front="nobody", mode=mode), "locked")
            self.looks(READER, standing(OWNER, front=0, mode=mode), "locked")
            self.looks(READER, standing(front="nobody", mode=mode), "locked")

    def test_an_idle_shell_in_front_is_left_raw(self):
        self.looks(READER, standing(mode="raw"), "leftraw")
        self.looks(READER, standing(OWNER, job(), mode="raw"), "leftraw")
        self.looks(READER, standing(OWNER, job()), None)
        self.looks(READER, START, None)

    def test_a_shell_that_is_not_idle_is_neither(self):
        for script in ("fore", "back", "front", "behind"):
            for front in ("shell", "nobody", 0):
                for mode in ("plain", "raw"):
                    self.looks(READER, standing(OWNER, script=script, front=front, mode=mode), None)

    def test_a_wait_for_a_stopped_job_is_deaf(self):
        for at, script in enumerate(("fore", "back", "front", "behind")):
            setup = setup_of(("read",), shell=put(shell_of(), at, ("go", "wait", "listen")))
            for front in ("shell", "nobody", 0):
                for mode in ("plain", "raw"):
                    for state, notice in STATES[:4]:
                        one = job(own=True, state=state, notice=notice)
                        wrongs = []
                        for place in range(3):
                            before = standing(one, OWNER, script=script, place=place, hand=0, front=front, mode=mode)
                            wrongs.append(self.wrong_of(setup, before, ("look",)))
                        deaf = "deafwait" if state == "stopped" else None
                        self.assertEqual(wrongs, [None, deaf, None])

    def test_a_wait_for_others_is_not(self):
        setup = setup_of(("read",), shell=shell_of(fore=("wait",)))
        stopped = job(state="stopped", notice="stop")
        for own in (True, False):
            self.looks(setup, standing(put(stopped, 2, own), script="fore", hand=0), "deafwait")
            self.looks(setup, standing(put(stopped, 2, own), script="fore", hand=-1), None)
            self.looks(setup, standing(put(stopped, 2, own), OWNER, script="fore", hand=1), None)
            self.looks(setup, standing(job(own=own, state="ended", notice="end"), script="fore", hand=0), None)


def words_of(told):
    """The EVENTs in a line, as "fore 0, look"."""
    parts = [piece.split() for piece in told.split(", ")]
    return [tuple([part[0]] + [int(number) for number in part[1:]]) for part in parts]


class EventsAt(EventTest):

    def lists(self, setup, before, told):
        self.assertEqual(repr(events_at(setup, before)), repr(words_of(told)))

    def test_at_start(self):
        self.lists(READER, START, "back 0, fore 0, look")
        setup = setup_of(("read",), ("hold",), ("hold",))
        self.lists(setup, START, "back 0, back 1, back 2, fore 0, fore 1, fore 2, look")

    def test_of_an_idle_shell_with_jobs(self):
        before = standing(
            (1, job()), (3, job(own=True)), (10, job(place=1)), (11, job(state="stopped", notice="stop")),
            (12, job(state="ended", notice="end")))
        self.lists(READER, before, (
            "back 0, behind 1, behind 3, behind 10, behind 11, behind 12, break 1, break 10, fore 0, "
            "front 1, front 3, front 10, front 11, front 12, hear 11, hear 12, job 3, job 10, line 1, look, "
            "stop 1, stop 10"))
        self.lists(READER, put(before, 2, 3), (
            "break 3, hear 11, hear 12, job 1, job 10, line 3, look, stop 3"))

    def test_of_a_shell_that_is_not_idle(self):
        before = standing(
            (1, job()), (2, job(own=True)), (3, job(state="ended", notice="end")), script="front", hand=2)
        self.lists(READER, before, "break 1, job 2, line 1, look, shell, stop 1")
        setup = setup_of(("read",), shell=shell_of(front=("wait",)))
        self.lists(setup, before, "break 1, job 2, line 1, look, stop 1")
        self.lists(setup, put(before, 4, 3), "break 1, job 2, line 1, look, shell, stop 1")

    def test_it_is_a_list_of_the_callers_own(self):
        before = standing(job(), OWNER)
        first = events_at(READER, before)
        self.assertIsInstance(first, list)
        kept = list(first)
        first.clear()
        self.assertEqual(events_at(READER, before), kept)

    def test_they_are_just_those_that_can_be_done(self):
        setup = (KINDS, ("fail", "stop", "go"), put(SHELL, 1, ("wait", "listen")))
        events = [(word,) for word in LONE] + [(word, number) for word in WORDS for number in range(-1, 6)]
        for state, notice in STATES:
            for own in (True, False):
                one = job(1, 2, own, state, notice)
                for script, hand in (("none", -1), ("back", 2), ("front", 0), ("fore", -1)):
                    for front in ("shell", "nobody", 1):
                        before = standing(
                            (0, job(2, 2)), (1, OWNER), (2, one), (4, OWNER), script=script, hand=hand, front=front)
                        found = [event for event in events if can_be_done(setup, before, event)]
                        self.assertEqual(events_at(setup, before), sorted(found))

    def test_of_many_jobs(self):
        many = 1500
        before = standing(*[job(place=1)] * many, script="fore")
        want = [("break", number) for number in range(many)] + [("job", number) for number in range(many)]
        want += [("look",), ("shell",)] + [("stop", number) for number in range(many)]
        self.assertEqual(events_at(READER, before), want)


def is_text(thing, text):
    return isinstance(thing, str) and thing == text


class Anything(EventTest):

    BEFORE = [START, standing(job(), OWNER), standing(job(), OWNER, script="fore", hand=0)]

    def none(self, *things):
        for thing in things:
            for before in self.BEFORE:
                self.assertIs(can_be_done(READER, before, thing), False)
                with self.assertRaises(BadEvent) as told:
                    step(READER, before, thing)
                self.assertIs(told.exception.event, thing)

    def test_what_is_no_tuple(self):
        self.none(*NEITHER, 0, 1, True, False, "look", "shell", "fore 0", ["look"], ["fore", 0], {"look": 0})

    def test_things_of_many_kinds(self):
        self.none(*THINGS, *[(thing,) for thing in THINGS if not is_text(thing, "shell")])

    def test_a_word_that_is_none(self):
        self.none(*[(thing, 0) for thing in THINGS if not is_text(thing, "fore")])
        self.none(("Look",), ("look ",), ("FORE", 0), ("start", 0), ("group", 0), ("read", 0), ("none",), ("",))

    def test_a_number_that_is_none(self):
        for word in WORDS:
            self.none(*[(word, thing) for thing in NEITHER], *[(word, thing) for thing in (True, False, (), (0,))])

    def test_tuples_of_wrong_lengths_and_depths(self):
        for word in WORDS:
            self.none((word,), (word, 0, 0), (word, 0, None), ((word, 0),), (word, (0,)), ((word,), 0), [word, 0])
        for word in LONE:
            self.none((word, 0), (word, None), (word, word), ((word,),), [word], (word, 0, 0))
        self.none((), ((),), ((), ()), (("look",), ("shell",)))


class Errors(unittest.TestCase):

    CALLS = [
        lambda setup, before: can_be_done(setup, before, None),
        lambda setup, before: step(setup, before, None),
        lambda setup, before: step(setup, before, ("look",)),
        lambda setup, before: events_at(setup, before)]

    def test_the_setup_is_checked_first(self):
        for call in self.CALLS:
            for thing in THINGS:
                with self.assertRaises(BadSetup) as told:
                    call(thing, thing)
                triple = isinstance(thing, tuple) and len(thing) == 3
                self.assertEqual(told.exception.place, ("kinds",) if triple else ())
            for setup, place in [
                    ((None, RULES, SHELL), ("kinds",)), ((("read",), RULES, SHELL), ("kinds", 0)),
                    ((KINDS, (), SHELL), ("rules",)), ((KINDS, RULES, ()), ("shell",)),
                    ((KINDS, RULES, put(SHELL, 3, ("read",))), ("shell", 3))]:
                for before in (START, None):
                    with self.assertRaises(BadSetup) as told:
                        call(setup, before)
                    self.assertEqual(told.exception.place, place)

    def test_then_the_standing(self):
        good = standing(OWNER, script="fore", hand=0)
        faults = [
            (list(START), ()), (START[:6], ()), (None, ()), (put(good, 0, "x"), ("script",)),
            (put(good, 1, 4), ("place",)), (put(good, 3, "x"), ("mode",)), (put(good, 5, True), ("made",)),
            (put(good, 6, ((0, None),)), ("jobs",)), (put(good, 2, 1), ("front",)), (put(good, 4, 1), ("hand",))]
        for call in self.CALLS:
            for before, place in faults:
                with self.assertRaises(BadStanding) as told:
                    call(SETUP, before)
                self.assertEqual(told.exception.place, place)
            for thing in THINGS:
                with self.assertRaises(BadStanding):
                    call(SETUP, thing)

    def test_a_standing_of_another_setup_is_none(self):
        before = standing(job(1, 2))
        self.assertEqual(events_at(SETUP, before)[0], ("back", 0))
        for call in self.CALLS:
            with self.assertRaises(BadStanding) as told:
                call(READER, before)
            self.assertEqual(told.exception.place, ("jobs",))

    def test_by_name(self):
        self.assertIs(can_be_done(setup=READER, standing=START, event=("look",)), True)
        self.assertIs(can_be_done(event=("shell",), standing=START, setup=READER), False)
        self.assertEqual(step(event=("look",), standing=START, setup=READER), (START, None))
        self.assertEqual(step(setup=READER, standing=START, event=("fore", 0)), step(READER, START, ("fore", 0)))
        self.assertEqual(events_at(standing=START, setup=READER), [("back", 0), ("fore", 0), ("look",)])


def near_standings(setup):
    """Many STANDINGs, most of which no RUN leads to."""
    found = []
    for script, hand in (("none", -1), ("fore", -1), ("fore", 0), ("back", 1), ("front", 1), ("behind", 0)):
        places = 1 if script == "none" else len(setup[2][("fore", "back", "front", "behind").index(script)])
        for place in range(places):
            for own in (True, False):
                for state, notice in STATES:
                    one = job(1, len(found) % 6, own, state, notice, held=len(found) % 7 < 3)
                    for front in ("shell", "nobody", 1):
                        for mode in ("plain", "raw"):
                            found.append(standing(
                                one, job(2, len(found) % 3, own=True), script=script, place=place, front=front,
                                mode=mode, hand=hand, made=4))
    return found


class OfAllStandings(EventTest):

    SETUPS = [
        (KINDS, RULES, (SHELL[0], ("listen", "wait"), SHELL[2], ("go", "group"))),
        (KINDS, ("fail", "stop", "go"), (("wait", "give"), ("take",), ("plain", "listen"), ("go", "give"))),
        (KINDS, ("wait", "stop", "stop"), (("group", "go"), ("give", "take"), ("listen",), ("wait",)))]

    def test_what_is_behind_is_a_standing_again(self):
        for setup in self.SETUPS:
            for before in near_standings(setup):
                for event in events_at(setup, before):
                    told = step(setup, before, event)
                    self.assertIsInstance(told, tuple)
                    self.assertEqual(len(told), 2)
                    self.assertIs(is_standing(setup, told[0]), True)

    def test_more_jobs_hinder_no_event(self):
        # The jobs without a ROLE that are there besides stay as they are, and change nothing.
        more = ((4, job(0, 1)), (5, job(1, 2, True, "stopped", "stop")), (6, job(2, 2, True, held=True)),
                (7, job(0, 0, False, "ended", "end")))
        for setup in self.SETUPS:
            for before in near_standings(setup):
                crowd = put(put(before, 6, before[6] + more), 5, 8)
                can = events_at(setup, crowd)
                for event in events_at(setup, before):
                    self.assertIn(event, can)
                    behind, wrong = step(setup, before, event)
                    crowded, also = step(setup, crowd, event)
                    self.assertEqual(wrong, also)
                    started = tuple([(8, one) for number, one in behind[6] if number == 4])
                    kept = tuple([pair for pair in behind[6] if pair[0] < 4])
                    self.assertEqual(crowded[6], kept + more + started)
                    self.assertEqual(crowded[:4], behind[:4])
                    self.assertEqual(crowded[4], 8 if behind[4] == 4 else behind[4])

    def test_equal_calls_tell_equal_things_and_change_nothing(self):
        for setup in self.SETUPS:
            for before in near_standings(setup)[::7]:
                again, kept = copy.deepcopy((setup, before)), repr((setup, before))
                self.assertEqual(events_at(setup, before), events_at(*again))
                for event in events_at(setup, before):
                    self.assertEqual(step(setup, before, event), step(*again, copy.deepcopy(event)))
                self.assertEqual(repr((setup, before)), kept)

    def test_what_is_refused_is_not_changed(self):
        event = ["fore", [0]]
        for passed in (event, ("fore", event), (event,), ("job", event)):
            self.assertIs(can_be_done(READER, START, passed), False)
            with self.assertRaises(BadEvent):
                step(READER, START, passed)
        before = list(START)
        with self.assertRaises(BadStanding):
            step(READER, before, ("look",))
        self.assertEqual((event, before), (["fore", [0]], list(START)))


if __name__ == "__main__":
    unittest.main()
