import unittest

from cases import EventTest, job, setup_of, standing
from samples import put

READS = ("stop", "fail", "wait")
LETS = ("go", "stop")
OWN, PLACE, STATE, NOTICE, HELD = 2, 1, 3, 4, 5

# SCRIPT and HAND with which the job with the number 1 is MEANT, and with which it is not.
MEANT = [("fore", 1), ("front", 1)]
NOT_MEANT = [("none", -1), ("fore", -1), ("fore", 0), ("front", 0), ("back", 1), ("behind", 1)]

# OWN and FRONT with which that job IS IN FRONT, and with which it is not.
IN_FRONT = [(True, 1), (False, "shell")]
NOT_IN_FRONT = [(True, "shell"), (True, "nobody"), (True, 0), (False, "nobody"), (False, 0)]

OTHER = job(own=True)


class ActTest(EventTest):

    def situations(self, fronts, hands, held=(True, False), modes=("plain", "raw"), notices=("none",)):
        """STANDINGs at which the job 1 comes to its second ACT, which is its last but one."""
        for own, front in fronts:
            for script, hand in hands:
                for holds in held:
                    for mode in modes:
                        for notice in notices:
                            yield standing(
                                OTHER, job(0, 1, own, "runs", notice, holds), front=front, script=script, hand=hand,
                                mode=mode)

    def all_rules(self, reads=READS, writes=LETS, takes=LETS):
        return [(one, two, three) for one in reads for two in writes for three in takes]

    def setups(self, act, **rules):
        return [setup_of(("hold", act, "hold"), rules=told) for told in self.all_rules(**rules)]

    def changes(self, setup, before, change, wrong=None, front=None, mode=None):
        """That the ACT makes this of the JOB, and this FRONT and MODE where they are told."""
        behind = put(before, 6, ((0, OTHER), (1, change(before[6][1][1]))))
        if front is not None:
            behind = put(behind, 2, front)
        if mode is not None:
            behind = put(behind, 3, mode)
        self.comes(setup, before, ("job", 1), behind, wrong)

    def goes(self, setup, before, wrong=None, front=None, mode=None):
        self.changes(setup, before, lambda one: put(one, PLACE, 2), wrong, front, mode)

    def stops(self, setup, before):
        """That the job STOPS, keeps its PLACE, and that this is the WRONG "unasked" if it is MEANT."""
        meant = (before[0], before[4]) in MEANT
        self.changes(setup, before, lambda one: put(put(one, STATE, "stopped"), NOTICE, "stop"),
                     "unasked" if meant else None)


EVERYWHERE = dict(fronts=IN_FRONT + NOT_IN_FRONT, hands=MEANT + NOT_MEANT)


class Plainly(ActTest):
    """The ACTs that no rule is about."""

    def test_group(self):
        for setup in self.setups("group"):
            for before in self.situations(**EVERYWHERE):
                self.changes(setup, before, lambda one: put(put(one, PLACE, 2), OWN, True))

    def test_hold(self):
        for setup in self.setups("hold"):
            for before in self.situations(**EVERYWHERE):
                self.changes(setup, before, lambda one: put(put(one, PLACE, 2), HELD, True))

    def test_again(self):
        for setup in self.setups("again"):
            for before in self.situations(**EVERYWHERE):
                self.changes(setup, before, lambda one: put(one, PLACE, 0))

    def test_a_job_that_groups_itself_leaves_what_is_in_front(self):
        setup = setup_of(("group", "read"))
        self.comes(setup, standing(job()), ("job", 0), standing(job(place=1, own=True)))
        self.refused(setup, standing(job(place=1, own=True)), ("line", 0))

    def test_again_as_the_first_act_may_be_done_without_end(self):
        setup = setup_of(("again",))
        self.comes(setup, standing(job()), ("job", 0), standing(job()))

    def test_the_last_act_makes_no_end(self):
        setup = setup_of(("hold", "hold"))
        self.comes(setup, standing(job(place=1)), ("job", 0), standing(job(place=2, held=True)))

    def test_a_notice_stays(self):
        for act, at in (("group", OWN), ("hold", HELD)):
            for setup in self.setups(act):
                for before in self.situations(IN_FRONT, NOT_MEANT[:1], notices=("stop",)):
                    self.changes(setup, before, lambda one: put(put(one, PLACE, 2), at, True))


class Front(ActTest):

    def test_let_by_takes(self):
        for setup in self.setups("front", takes=("go",)):
            for before in self.situations(**EVERYWHERE):
                self.goes(setup, before, front=1 if before[6][1][1][OWN] else "shell")

    def test_let_in_front(self):
        for setup in self.setups("front", takes=("stop",)):
            for before in self.situations(IN_FRONT, MEANT + NOT_MEANT):
                self.goes(setup, before)

    def test_let_behind_a_hold(self):
        for setup in self.setups("front", takes=("stop",)):
            for before in self.situations(NOT_IN_FRONT, MEANT + NOT_MEANT, held=(True,)):
                self.goes(setup, before, front=1 if before[6][1][1][OWN] else "shell")

    def test_otherwise_it_stops(self):
        for setup in self.setups("front", takes=("stop",)):
            for before in self.situations(NOT_IN_FRONT, MEANT + NOT_MEANT, held=(False,), notices=("none", "stop")):
                self.stops(setup, before)


class Read(ActTest):

    def test_not_in_front(self):
        for setup in self.setups("read"):
            for before in self.situations(IN_FRONT, MEANT + NOT_MEANT):
                self.refused(setup, before, ("job", 1))

    def test_not_if_reads_is_wait(self):
        for setup in self.setups("read", reads=("wait",)):
            for before in self.situations(**EVERYWHERE):
                self.refused(setup, before, ("job", 1))

    def test_it_stops_if_reads_is_stop(self):
        for setup in self.setups("read", reads=("stop",)):
            for before in self.situations(NOT_IN_FRONT, MEANT + NOT_MEANT, held=(False,), notices=("none", "stop")):
                self.stops(setup, before)

    def test_behind_a_hold_the_reading_fails(self):
        for setup in self.setups("read", reads=("stop",)):
            for before in self.situations(NOT_IN_FRONT, MEANT + NOT_MEANT, held=(True,)):
                self.goes(setup, before)

    def test_if_reads_is_fail_the_reading_fails(self):
        for setup in self.setups("read", reads=("fail",)):
            for before in self.situations(NOT_IN_FRONT, MEANT + NOT_MEANT):
                self.goes(setup, before)


class Write(ActTest):

    def test_in_front(self):
        for setup in self.setups("write"):
            for before in self.situations(IN_FRONT, MEANT + NOT_MEANT):
                self.goes(setup, before)

    def test_let_by_writes(self):
        for setup in self.setups("write", writes=("go",)):
            for before in self.situations(NOT_IN_FRONT, MEANT + NOT_MEANT):
                self.goes(setup, before, "overwrite" if before[3] == "raw" else None)

    def test_let_behind_a_hold(self):
        for setup in self.setups("write", writes=("stop",)):
            for before in self.situations(NOT_IN_FRONT, MEANT + NOT_MEANT, held=(True,)):
                self.goes(setup, before, "overwrite" if before[3] == "raw" else None)

    def test_otherwise_it_stops(self):
        for setup in self.setups("write", writes=("stop",)):
            for before in self.situations(NOT_IN_FRONT, MEANT + NOT_MEANT, held=(False,), notices=("none", "stop")):
                self.stops(setup, before)


class Modes(ActTest):

    def test_let_by_takes(self):
        for act in ("raw", "plain"):
            for setup in self.setups(act, takes=("go",)):
                for before in self.situations(**EVERYWHERE):
                    self.goes(setup, before, mode=act)

    def test_let_in_front(self):
        for act in ("raw", "plain"):
            for setup in self.setups(act, takes=("stop",)):
                for before in self.situations(IN_FRONT, MEANT + NOT_MEANT):
                    self.goes(setup, before, mode=act)

    def test_let_behind_a_hold(self):
        for act in ("raw", "plain"):
            for setup in self.setups(act, takes=("stop",)):
                for before in self.situations(NOT_IN_FRONT, MEANT + NOT_MEANT, held=(True,)):
                    self.goes(setup, before, mode=act)

    def test_otherwise_it_stops(self):
        for act in ("raw", "plain"):
            for setup in self.setups(act, takes=("stop",)):
                for before in self.situations(
                        NOT_IN_FRONT, MEANT + NOT_MEANT, held=(False,), notices=("none", "stop")):
                    self.stops(setup, before)


class Stopped(ActTest):

    def test_it_does_its_act_once_it_goes_on(self):
        setup = setup_of(("write",), rules=("stop", "stop", "stop"), shell=(("go",), (), ("give", "go"), ()))
        stopped = job(own=True, state="stopped", notice="stop")
        self.comes(setup, standing(job(own=True)), ("job", 0), standing(stopped))
        self.comes(setup, standing(stopped), ("front", 0), standing(stopped, script="front", hand=0))
        self.comes(setup, standing(stopped, script="front", hand=0), ("shell",),
                   standing(stopped, script="front", place=1, hand=0, front=0))
        self.comes(setup, standing(stopped, script="front", place=1, hand=0, front=0), ("shell",),
                   standing(job(own=True), front=0))
        self.comes(setup, standing(job(own=True), front=0), ("job", 0), standing(job(own=True, place=1), front=0))

    def test_each_kind_has_its_own_acts(self):
        setup = setup_of(("hold",), ("group",), ("read",), rules=("fail", "go", "go"))
        for kind, behind in enumerate((job(0, 1, held=True), job(1, 1, own=True), job(2, 1))):
            self.comes(setup, standing(job(kind), front="nobody"), ("job", 0), standing(behind, front="nobody"))


if __name__ == "__main__":
    unittest.main()
