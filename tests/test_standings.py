import copy
import unittest

from frontjobs.errors import BadSetup, BadStanding, Missing
from frontjobs.standings import START, is_in_front, is_meant, is_standing, job_of, need_standing
from samples import KINDS, NEITHER, RULES, SETUP, SHELL, THINGS, put

# The items of a JOB and of a STANDING.
KIND, PLACE, OWN, STATE, NOTICE, HELD = range(6)
SCRIPT, STEP, FRONT, MODE, HAND, MADE, JOBS = range(7)

# With a group of its own and without, ended, stopped, and running.
OWNER = (1, 4, True, "runs", "none", False)
SHARER = (0, 0, False, "runs", "none", False)
STOPPED = (2, 1, True, "stopped", "stop", True)
ENDED = (0, 1, True, "ended", "end", False)
LAST = (0, 1, False, "ended", "end", False)
CROWD = ((0, OWNER), (2, SHARER), (3, STOPPED), (7, ENDED), (8, LAST))

STANDING = ("fore", 1, 3, "raw", 2, 9, CROWD)


def alone(job):
    """A STANDING with this job alone."""
    return ("none", 0, "shell", "plain", -1, 1, ((0, job),))


def place_of(setup, thing):
    """The place that BadStanding tells of anything, or None if it is a STANDING."""
    try:
        need_standing(setup, thing)
    except BadStanding as error:
        return error.place
    return None


class StandingTest(unittest.TestCase):

    def good(self, thing, setup=SETUP):
        self.assertIs(is_standing(setup, thing), True)
        self.assertIs(need_standing(setup, thing), thing)

    def bad(self, thing, *place, setup=SETUP):
        self.assertIs(is_standing(setup, thing), False)
        with self.assertRaises(BadStanding) as told:
            need_standing(setup, thing)
        self.assertEqual(told.exception.place, place)
        self.assertIsInstance(told.exception.place, tuple)


class Standings(StandingTest):

    def test_start(self):
        self.assertEqual(repr(START), "('none', 0, 'shell', 'plain', -1, 0, ())")
        for kinds in (KINDS, KINDS[:1], (("again",) * 5,) * 3):
            for shell in (SHELL, ((), (), (), ()), (("wait",) * 6,) * 4):
                self.good(START, (kinds, RULES, shell))

    def test_a_standing_is_given_back_itself(self):
        self.good(STANDING)
        self.good(tuple(list(STANDING)))

    def test_what_is_no_tuple_of_seven(self):
        for thing in NEITHER + [START[:6], START + ((),), list(START), (), 7, True, "abcdefg", START[:-1] * 2]:
            self.bad(thing)

    def test_every_script_at_every_place(self):
        for at, script in enumerate(("fore", "back", "front", "behind")):
            for many in range(7):
                setup = (KINDS, RULES, put(((), (), (), ()), at, ("go",) * many))
                for place in range(many):
                    self.good((script, place, "shell", "plain", -1, 0, ()), setup)
                for place in (many, many + 1, -1, 10 ** 999, -(10 ** 999)):
                    self.bad((script, place, "shell", "plain", -1, 0, ()), "place", setup=setup)

    def test_a_script_without_steps_has_no_place(self):
        for place in (0, 1, -1):
            self.bad(("behind", place, "shell", "plain", -1, 0, ()), "place")

    def test_an_idle_shell_is_at_place_0(self):
        self.good(START)
        for place in (1, 2, -1, 10 ** 999):
            self.bad(put(START, STEP, place), "place")

    def test_a_script_that_is_none(self):
        for thing in NEITHER + [0, 1, True, False, (), "None", "shell", "nobody", "idle", ("fore",), ["none"]]:
            self.bad(put(START, SCRIPT, thing), "script")
            self.bad(put(STANDING, SCRIPT, thing), "script")

    def test_a_place_that_is_no_integer(self):
        for thing in NEITHER + [True, False, (), (0,), "0", "none"]:
            self.bad(put(START, STEP, thing), "place")
            self.bad(put(STANDING, STEP, thing), "place")

    def test_a_mode_that_is_none(self):
        self.good(put(START, MODE, "raw"))
        self.good(put(STANDING, MODE, "plain"))
        for thing in NEITHER + [0, 1, True, False, (), "none", "cooked", "RAW", ("raw",)]:
            self.bad(put(START, MODE, thing), "mode")
            self.bad(put(STANDING, MODE, thing), "mode")

    def test_made(self):
        for many in (0, 1, 300, 10 ** 999):
            self.good(put(START, MADE, many))
        for many in (9, 10, 10 ** 999):
            self.good(put(STANDING, MADE, many))
        for thing in NEITHER + [-1, -2, True, False, (), "0", (0,)]:
            self.bad(put(START, MADE, thing), "made")
            self.bad(put(STANDING, MADE, thing), "made")

    def test_front(self):
        for front in ("shell", "nobody", 0, 3):
            self.good(put(STANDING, FRONT, front))
        for front in ("shell", "nobody"):
            self.good(put(START, FRONT, front))
        for front in (0, 1, -1):
            self.bad(put(START, FRONT, front), "front")

    def test_a_front_that_is_none(self):
        shared, ended, ended_shared = 2, 7, 8
        for front in (shared, ended, ended_shared, 1, 4, 6, 9, -1, -2, 10 ** 999):
            self.bad(put(STANDING, FRONT, front), "front")
        for thing in NEITHER + [True, False, (), (0,), "none", "job", "0", ("shell",), OWNER, CROWD[0]]:
            self.bad(put(STANDING, FRONT, thing), "front")
            self.bad(put(START, FRONT, thing), "front")

    def test_a_truth_value_is_no_front(self):
        jobs = ((0, OWNER), (1, OWNER))
        for front in (0, 1):
            self.good(("none", 0, front, "plain", -1, 2, jobs))
        for front in (False, True):
            self.bad(("none", 0, front, "plain", -1, 2, jobs), "front")

    def test_hand(self):
        for hand in (-1, 0, 2, 3, 7, 8):
            self.good(put(STANDING, HAND, hand))
            for script in ("back", "front"):
                self.good(put(put(put(STANDING, SCRIPT, script), STEP, 0), HAND, hand))

    def test_a_hand_that_is_none(self):
        for hand in (1, 4, 6, 9, -2, 10 ** 999, -(10 ** 999)):
            self.bad(put(STANDING, HAND, hand), "hand")
        for thing in NEITHER + [True, False, (), (0,), "none", "-1", "0", OWNER, CROWD[0]]:
            self.bad(put(STANDING, HAND, thing), "hand")
            self.bad(put(START, HAND, thing), "hand")

    def test_a_truth_value_is_no_hand(self):
        jobs = ((0, OWNER), (1, OWNER))
        for hand in (0, 1):
            self.good(("fore", 0, "shell", "plain", hand, 2, jobs))
        for hand in (False, True):
            self.bad(("fore", 0, "shell", "plain", hand, 2, jobs), "hand")

    def test_an_idle_shell_has_no_hand(self):
        idle = put(put(STANDING, SCRIPT, "none"), STEP, 0)
        self.good(put(idle, HAND, -1))
        for hand in (0, 2, 3, 7, 8, 1, -2):
            self.bad(put(idle, HAND, hand), "hand")

    def test_it_is_one_by_its_form_alone(self):
        hearing_nothing = (0, 0, False, "stopped", "none", True)
        running_with_a_notice = (0, 0, True, "runs", "stop", True)
        self.good(("none", 0, "nobody", "raw", -1, 9, ((4, hearing_nothing), (5, running_with_a_notice))))
        self.good(("back", 0, 5, "raw", -1, 9, ((4, hearing_nothing), (5, running_with_a_notice))))

    def test_by_name(self):
        self.assertIs(is_standing(setup=SETUP, thing=START), True)
        self.assertIs(need_standing(thing=STANDING, setup=SETUP), STANDING)
        self.assertIs(is_standing(thing=None, setup=SETUP), False)


class Order(StandingTest):

    # In the order of the document, an item that is not as told.
    FAULTS = [(SCRIPT, "x"), (STEP, -1), (MODE, "x"), (MADE, -1), (JOBS, None), (FRONT, "x"), (HAND, -2)]
    NAMES = ["script", "place", "mode", "made", "jobs", "front", "hand"]

    def test_one_item(self):
        for standing in (START, STANDING):
            for (at, thing), name in zip(self.FAULTS, self.NAMES):
                self.bad(put(standing, at, thing), name)

    def test_two_items(self):
        for standing in (START, STANDING):
            for first in range(7):
                for second in range(first + 1, 7):
                    thing = put(standing, *self.FAULTS[first])
                    self.bad(put(thing, *self.FAULTS[second]), self.NAMES[first])

    def test_every_choice_of_items(self):
        for choice in range(1, 2 ** 7):
            thing = STANDING
            for number, fault in enumerate(self.FAULTS):
                if choice >> number & 1:
                    thing = put(thing, *fault)
            first = (choice & -choice).bit_length() - 1
            self.bad(thing, self.NAMES[first])

    def test_an_item_that_another_one_spoils(self):
        no_jobs = put(STANDING, JOBS, ())
        self.bad(no_jobs, "front")
        self.bad(put(no_jobs, FRONT, "shell"), "hand")
        self.bad(put(put(no_jobs, FRONT, "shell"), MADE, 0), "hand")
        self.bad(put(STANDING, MADE, 8), "jobs")
        self.bad(put(STANDING, MADE, 0), "jobs")
        self.bad(put(STANDING, SCRIPT, "none"), "place")
        self.bad(put(STANDING, SCRIPT, "behind"), "place")
        self.bad(put(STANDING, SCRIPT, "back"), "place")
        self.bad(put(put(STANDING, SCRIPT, "none"), STEP, 0), "hand")

    def test_the_setup_is_checked_first(self):
        for call in (is_standing, need_standing):
            for thing in THINGS:
                with self.assertRaises(BadSetup) as told:
                    call(thing, thing)
                self.assertEqual(told.exception.place, ("kinds",) if is_triple(thing) else ())
            with self.assertRaises(BadSetup) as told:
                call((KINDS, RULES, put(SHELL, 2, None)), START)
            self.assertEqual(told.exception.place, ("shell", 2))


def is_triple(thing):
    return isinstance(thing, tuple) and len(thing) == 3


class Jobs(StandingTest):

    def test_every_job_of_small_numbers(self):
        for kind, acts in enumerate(KINDS):
            for place in range(len(acts) + 1):
                for own in (True, False):
                    for held in (True, False):
                        for state, notice in [
                                ("runs", "none"), ("runs", "stop"), ("stopped", "none"), ("stopped", "stop"),
                                ("ended", "end")]:
                            self.good(alone((kind, place, own, state, notice, held)))

    def test_what_is_no_tuple_of_six(self):
        for thing in NEITHER + [(), OWNER[:5], OWNER + (False,), list(OWNER), 0, 1, True, "abcdef", alone(OWNER)]:
            self.bad(alone(thing), "jobs")

    def test_the_kind(self):
        for kind in (-1, 3, 4, 10 ** 999, -(10 ** 999)):
            self.bad(alone(put(SHARER, KIND, kind)), "jobs")
        one_kind = (KINDS[:1], RULES, SHELL)
        self.good(alone(put(SHARER, KIND, 0)), one_kind)
        self.bad(alone(put(SHARER, KIND, 1)), "jobs", setup=one_kind)
        for thing in NEITHER + [True, False, "0", (), (0,), ("read",), KINDS[0]]:
            self.bad(alone(put(SHARER, KIND, thing)), "jobs")

    def test_the_place_is_at_most_the_number_of_acts(self):
        for kind, acts in enumerate(KINDS):
            self.good(alone((kind, len(acts), True, "runs", "none", False)))
            for place in (len(acts) + 1, len(acts) + 2, -1, 10 ** 999):
                self.bad(alone((kind, place, True, "runs", "none", False)), "jobs")
        for thing in NEITHER + [True, False, "0", (), (0,)]:
            self.bad(alone(put(SHARER, PLACE, thing)), "jobs")

    def test_own_and_held_are_truth_values(self):
        for at in (OWN, HELD):
            for job in (OWNER, SHARER, STOPPED, ENDED, LAST):
                for worth in (True, False):
                    self.good(alone(put(job, at, worth)))
                for thing in NEITHER + [0, 1, -1, (), (True,), "True", "held", "own"]:
                    self.bad(alone(put(job, at, thing)), "jobs")

    def test_the_state(self):
        for thing in NEITHER + [0, 1, True, False, (), "none", "stop", "end", "Runs", "ended ", ("runs",)]:
            self.bad(alone(put(SHARER, STATE, thing)), "jobs")
            self.bad(alone(put(ENDED, STATE, thing)), "jobs")

    def test_the_notice(self):
        for state in ("runs", "stopped"):
            job = put(SHARER, STATE, state)
            self.good(alone(put(job, NOTICE, "stop")))
            self.good(alone(put(job, NOTICE, "none")))
            self.bad(alone(put(job, NOTICE, "end")), "jobs")
        self.good(alone(ENDED))
        for notice in ("stop", "none"):
            self.bad(alone(put(ENDED, NOTICE, notice)), "jobs")
        for thing in NEITHER + [0, 1, True, False, (), "ended", "stopped", "End", ("end",)]:
            for job in (SHARER, STOPPED, ENDED):
                self.bad(alone(put(job, NOTICE, thing)), "jobs")

    def test_jobs_that_are_no_tuple(self):
        for thing in NEITHER + [list(CROWD), {0: OWNER}, [], 0, 1, True, False, "none"]:
            self.bad(put(STANDING, JOBS, thing), "jobs")
            self.bad(put(START, JOBS, thing), "jobs")

    def test_a_pair_that_is_none(self):
        pairs = [(), (0,), (0, OWNER, OWNER), [0, OWNER], {0: OWNER}, OWNER, (OWNER, 0), (0, 0), 0, 1, True, "ab"]
        for pair in NEITHER + pairs:
            self.bad(("none", 0, "shell", "plain", -1, 9, (pair,)), "jobs")
            self.bad(("none", 0, "shell", "plain", -1, 9, (pair, (8, OWNER))), "jobs")
            self.bad(("none", 0, "shell", "plain", -1, 9, ((0, OWNER), pair)), "jobs")

    def numbered(self, made, *numbers):
        return ("none", 0, "shell", "plain", -1, made, tuple([(number, OWNER) for number in numbers]))

    def test_the_numbers_ascend(self):
        for numbers in ((0,), (8,), (0, 1), (0, 8), (1, 2, 3), (0, 2, 4, 6, 8), tuple(range(9))):
            self.good(self.numbered(9, *numbers))
        for numbers in ((0, 0), (1, 0), (8, 0), (0, 1, 1), (0, 2, 1), (1, 2, 0), (3, 3, 4), (0, 1, 3, 2)):
            self.bad(self.numbered(9, *numbers), "jobs")

    def test_the_numbers_are_from_0_on_and_less_than_made(self):
        self.good(self.numbered(10 ** 999, 0, 10 ** 999 - 1))
        for made, numbers in [
                (0, (0,)), (1, (1,)), (1, (0, 1)), (9, (9,)), (9, (0, 9)), (9, (10,)), (9, (10 ** 999,)),
                (9, (-1,)), (9, (-1, 0)), (9, (-2, -1)), (9, (-(10 ** 999),)), (10 ** 999, (10 ** 999,))]:
            self.bad(self.numbered(made, *numbers), "jobs")

    def test_a_number_that_is_no_integer(self):
        for thing in NEITHER + [True, False, (), (0,), "0"]:
            self.bad(self.numbered(9, thing), "jobs")
            self.bad(self.numbered(9, 0, thing), "jobs")
            self.bad(self.numbered(9, thing, 2), "jobs")

    def test_one_wrong_job_among_good_ones(self):
        for at in range(5):
            crowd = put(CROWD, at, (CROWD[at][0], put(CROWD[at][1], KIND, 3)))
            self.bad(put(STANDING, JOBS, crowd), "jobs")

    def test_many_jobs(self):
        self.good(self.numbered(3000, *range(3000)))
        self.bad(self.numbered(2999, *range(3000)), "jobs")


class Asking(unittest.TestCase):

    CALLS = (job_of, is_in_front, is_meant)

    def test_job_of(self):
        for number, job in CROWD:
            self.assertIs(job_of(SETUP, STANDING, number), job)

    def test_what_is_no_number_is_missing(self):
        things = THINGS + [1, 4, 5, 6, 9, -3, "0", "hand", CROWD, CROWD[0], OWNER, [0], (0,), 0.0, 2.0]
        for thing in things:
            if not (is_number(thing) and thing in (0, 2, 3, 7, 8)):
                for call in self.CALLS:
                    with self.assertRaises(Missing) as told:
                        call(SETUP, STANDING, thing)
                    self.assertIs(told.exception.number, thing)

    def test_truth_values_are_no_numbers(self):
        standing = ("fore", 0, 1, "plain", 0, 2, ((0, OWNER), (1, OWNER)))
        for call in self.CALLS:
            for thing in (True, False):
                with self.assertRaises(Missing) as told:
                    call(SETUP, standing, thing)
                self.assertIs(told.exception.number, thing)

    def test_start_has_no_jobs(self):
        for call in self.CALLS:
            for thing in (0, -1, 1):
                with self.assertRaises(Missing) as told:
                    call(SETUP, START, thing)
                self.assertEqual(told.exception.number, thing)

    def in_front(self, standing):
        return [number for number, _ in standing[JOBS] if self.asked(is_in_front, standing, number)]

    def meant(self, standing):
        return [number for number, _ in standing[JOBS] if self.asked(is_meant, standing, number)]

    def asked(self, call, standing, number):
        answer = call(SETUP, standing, number)
        self.assertIsInstance(answer, bool)
        return answer

    def test_a_job_with_own_is_in_front_if_it_is_front(self):
        self.assertEqual(self.in_front(put(STANDING, FRONT, 0)), [0])
        self.assertEqual(self.in_front(put(STANDING, FRONT, 3)), [3])

    def test_jobs_without_own_are_in_front_if_the_shell_is(self):
        self.assertEqual(self.in_front(put(STANDING, FRONT, "shell")), [2, 8])

    def test_nobody_is_in_front(self):
        self.assertEqual(self.in_front(put(STANDING, FRONT, "nobody")), [])

    def test_it_is_meant_if_it_is_hand_at_fore_or_front(self):
        for script, means in (("fore", True), ("front", True), ("back", False)):
            for hand in (0, 2, 3, 7, 8):
                standing = (script, 0, "nobody", "plain", hand, 9, CROWD)
                self.assertEqual(self.meant(standing), [hand] if means else [])
            self.assertEqual(self.meant((script, 0, "nobody", "plain", -1, 9, CROWD)), [])

    def test_none_is_meant_behind_or_by_an_idle_shell(self):
        setup = (KINDS, RULES, (("go",), ("go",), ("go",), ("go",)))
        for number, _ in CROWD:
            self.assertIs(is_meant(setup, ("behind", 0, "shell", "raw", number, 9, CROWD), number), False)
            self.assertIs(is_meant(setup, ("none", 0, "shell", "raw", -1, 9, CROWD), number), False)

    def test_front_does_not_make_it_meant_nor_hand_in_front(self):
        standing = ("fore", 0, 0, "plain", 3, 9, CROWD)
        self.assertEqual(self.in_front(standing), [0])
        self.assertEqual(self.meant(standing), [3])

    def test_the_order_of_the_errors(self):
        for call in self.CALLS:
            with self.assertRaises(BadSetup) as told:
                call((KINDS, RULES), None, None)
            self.assertEqual(told.exception.place, ())
            with self.assertRaises(BadSetup) as told:
                call((KINDS, None, SHELL), STANDING, 0)
            self.assertEqual(told.exception.place, ("rules",))
            with self.assertRaises(BadStanding) as told:
                call(SETUP, put(STANDING, HAND, 1), 1)
            self.assertEqual(told.exception.place, ("hand",))
            with self.assertRaises(BadStanding) as told:
                call(SETUP, None, 0)
            self.assertEqual(told.exception.place, ())

    def test_by_name(self):
        self.assertIs(job_of(setup=SETUP, standing=STANDING, number=3), STOPPED)
        self.assertIs(is_in_front(number=3, standing=STANDING, setup=SETUP), True)
        self.assertIs(is_meant(SETUP, number=2, standing=STANDING), True)


def is_number(thing):
    return isinstance(thing, int) and not isinstance(thing, bool)


class Unchanged(unittest.TestCase):

    def test_equal_calls_have_equal_results(self):
        for thing in (START, STANDING, put(STANDING, MADE, 8), None, list(START)):
            again = copy.deepcopy(thing)
            self.assertEqual(is_standing(SETUP, thing), is_standing(copy.deepcopy(SETUP), again))
            self.assertEqual(place_of(SETUP, thing), place_of(copy.deepcopy(SETUP), again))
        for number in (0, 2, 3, 7, 8):
            again = copy.deepcopy(STANDING)
            for call in (job_of, is_in_front, is_meant):
                self.assertEqual(call(SETUP, STANDING, number), call(SETUP, again, number))

    def test_nothing_that_is_passed_is_changed(self):
        jobs = [[number, list(job)] for number, job in CROWD]
        thing = ["fore", 1, 3, "raw", 2, 9, jobs]
        before = copy.deepcopy(thing)
        for passed in (thing, put(STANDING, JOBS, jobs), put(STANDING, FRONT, jobs), put(STANDING, HAND, jobs)):
            self.assertIs(is_standing(SETUP, passed), False)
            for call in (job_of, is_in_front, is_meant):
                with self.assertRaises(BadStanding):
                    call(SETUP, passed, 0)
                with self.assertRaises(Missing):
                    call(SETUP, STANDING, passed)
        self.assertEqual(thing, before)

    def test_the_error_keeps_what_was_asked_for(self):
        asked = [[1], {"a": 2}]
        with self.assertRaises(Missing) as told:
            job_of(SETUP, STANDING, asked)
        self.assertIs(told.exception.number, asked)
        self.assertEqual(asked, [[1], {"a": 2}])


if __name__ == "__main__":
    unittest.main()
