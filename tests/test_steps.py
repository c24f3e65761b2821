import unittest

from cases import STATES, EventTest, job, setup_of, standing
from frontjobs.events import step

SCRIPTS = ("fore", "back", "front", "behind")
FIRST_FIVE = ("group", "give", "go", "wait", "listen")

# Some jobs beside HAND, so that a STEP that is done for another one shows; the group of 2 may be in front.
LEFT = job(state="stopped", notice="stop")
RIGHT = job(own=True, state="stopped", notice="stop", held=True)


def setup_with(step_word):
    """A SETUP, each SCRIPT of which does this STEP first."""
    return setup_of(("read",), shell=((step_word, "go"),) * 4)


def crowd(hand, script="fore", place=0, front="shell", mode="plain", number=1):
    """The STANDING with these jobs and HAND between them; without HAND if it is None."""
    pairs = [(0, LEFT), (1, hand), (2, RIGHT)] if hand else [(0, LEFT), (2, RIGHT)]
    return standing(*pairs, script=script, place=place, front=front, mode=mode, hand=number, made=5)


class Steps(EventTest):

    def does(self, step_word, one, behind, front="shell", front_behind=None, hand_behind=1):
        """That the STEP makes this JOB of HAND (None: it leaves) and this FRONT, in each SCRIPT and MODE."""
        for script in SCRIPTS:
            for mode in ("plain", "raw"):
                self.comes(
                    setup_with(step_word), crowd(one, script, 0, front, mode), ("shell",),
                    crowd(behind, script, 1, front if front_behind is None else front_behind, mode, hand_behind))

    def test_group(self):
        for state, notice in STATES[:4]:
            for held in (True, False):
                for place in (0, 1):
                    one = job(0, place, False, state, notice, held)
                    own = job(0, place, True, state, notice, held)
                    for front in ("shell", "nobody", 2):
                        self.does("group", one, own, front)
                    for front in ("shell", "nobody", 1, 2):
                        self.does("group", own, own, front)

    def test_group_of_an_ended_job(self):
        for own in (True, False):
            over = job(own=own, state="ended", notice="end")
            self.does("group", over, over)

    def test_give(self):
        for state, notice in STATES:
            for own in (True, False):
                one = job(own=own, state=state, notice=notice)
                comes = "nobody" if state == "ended" else 1 if own else "shell"
                for front in ("shell", "nobody", 2):
                    self.does("give", one, one, front, comes)
        self.does("give", job(own=True), job(own=True), 1, 1)

    def test_go(self):
        for own in (True, False):
            for held in (True, False):
                for notice in ("stop", "none"):
                    one = job(0, 1, own, "stopped", notice, held)
                    for front in ("shell", "nobody", 1 if own else 2):
                        self.does("go", one, job(0, 1, own, "runs", "none", held), front)

    def test_go_of_a_job_that_is_not_stopped(self):
        for state, notice in STATES:
            if state != "stopped":
                for own in (True, False):
                    one = job(own=own, state=state, notice=notice)
                    self.does("go", one, one)

    def test_wait(self):
        for own in (True, False):
            for front in ("shell", "nobody", 2):
                self.does("wait", job(own=own, state="ended", notice="end"), None, front, hand_behind=-1)

    def test_wait_for_a_job_that_is_not_ended(self):
        for state, notice in STATES[:4]:
            for own in (True, False):
                for script in SCRIPTS:
                    before = crowd(job(own=own, state=state, notice=notice), script)
                    self.refused(setup_with("wait"), before, ("shell",))

    def test_listen_to_an_ended_job(self):
        for own in (True, False):
            for front in ("shell", "nobody", 2):
                self.does("listen", job(own=own, state="ended", notice="end"), None, front, hand_behind=-1)

    def test_listen_to_a_notice_of_a_stop(self):
        for state in ("stopped", "runs"):
            for own in (True, False):
                one, heard = job(own=own, state=state, notice="stop"), job(own=own, state=state)
                for front in ("shell", "nobody", 1 if own else 2):
                    self.does("listen", one, heard, front, hand_behind=-1)

    def test_listen_without_a_notice(self):
        for state in ("stopped", "runs"):
            for own in (True, False):
                for script in SCRIPTS:
                    self.refused(setup_with("listen"), crowd(job(own=own, state=state), script), ("shell",))

    def test_take(self):
        for state, notice in STATES:
            one = job(state=state, notice=notice)
            for front in ("shell", "nobody", 2):
                self.does("take", one, one, front, "shell")
        self.does("take", job(own=True), job(own=True), 1, "shell")

    def test_plain(self):
        for script in SCRIPTS:
            for front in ("shell", "nobody", 2):
                for mode in ("plain", "raw"):
                    self.comes(
                        setup_with("plain"), crowd(job(), script, 0, front, mode), ("shell",),
                        crowd(job(), script, 1, front, "plain"))

    def test_without_a_hand_the_first_five_do_nothing(self):
        for step_word in FIRST_FIVE:
            for front in ("shell", "nobody", 2):
                for script in SCRIPTS:
                    for mode in ("plain", "raw"):
                        for jobs in (job(own=True), None):
                            self.comes(
                                setup_with(step_word), crowd(jobs, script, 0, front, mode, number=-1), ("shell",),
                                crowd(jobs, script, 1, front, mode, number=-1))

    def test_without_a_hand_the_last_two_do_what_they_do(self):
        for script in SCRIPTS:
            self.comes(
                setup_with("take"), crowd(None, script, 0, "nobody", "raw", -1), ("shell",),
                crowd(None, script, 1, "shell", "raw", -1))
            self.comes(
                setup_with("plain"), crowd(None, script, 0, "nobody", "raw", -1), ("shell",),
                crowd(None, script, 1, "nobody", "plain", -1))

    def test_behind_a_hand_that_left_the_others_do_nothing(self):
        setup = setup_of(("read",), shell=(("wait", "wait", "listen", "give", "group", "go"), (), (), ()))
        one = standing(job(state="ended", notice="end"), job(), script="fore", hand=0, front="nobody")
        for place in range(1, 6):
            one, wrong = step(setup, one, ("shell",))
            self.assertEqual(one, standing((1, job()), script="fore", place=place, front="nobody"))
            self.assertIsNone(wrong)
        self.assertEqual(step(setup, one, ("shell",)), (standing((1, job()), front="nobody"), None))

    def test_the_last_step_is_done_before_the_script_is_over(self):
        setup = setup_of(("read",), shell=(("group",), ("give",), ("take",), ("plain",)))
        self.comes(setup, standing(job(), script="fore", hand=0), ("shell",), standing(job(own=True)))
        self.comes(setup, standing(job(own=True), script="back", hand=0), ("shell",),
                   standing(job(own=True), front=0))
        self.comes(setup, standing(job(own=True), script="front", hand=0, front=0), ("shell",),
                   standing(job(own=True)))
        self.comes(setup, standing(job(), script="behind", hand=0, mode="raw"), ("shell",), standing(job()))

    def test_a_last_step_that_cannot_be_done(self):
        setup = setup_of(("read",), shell=(("wait",), ("listen",), (), ()))
        for state in ("runs", "stopped"):
            self.refused(setup, standing(job(state=state), script="fore", hand=0), ("shell",))
            self.refused(setup, standing(job(state=state), script="back", hand=0), ("shell",))
        over = job(state="ended", notice="end")
        self.comes(setup, standing(over, script="fore", hand=0), ("shell",), standing(made=1))
        self.comes(setup, standing(over, script="back", hand=0), ("shell",), standing(made=1))


if __name__ == "__main__":
    unittest.main()
