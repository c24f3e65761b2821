"""What the document promises over the whole program."""

import copy
import unittest

from frontjobs import errors
from frontjobs.deciding import can_come, check_paper, fewest, paper, wrongs_of
from frontjobs.desk import Desk
from frontjobs.events import can_be_done, events_at, step
from frontjobs.live import World, under
from frontjobs.logs import fits, fitting, may, must, need_log, visible
from frontjobs.mends import gains, mended, mends, quietest, rules_for
from frontjobs.plays import is_play, last_standing, need_play, trace
from frontjobs.rows import behind, covers, is_row, is_under, row_of
from frontjobs.setups import WRONGS, is_setup, need_setup, need_wrong
from frontjobs.standings import START, is_in_front, is_meant, is_standing, job_of, need_standing
from frontjobs.tables import bars, is_closed, is_table, lean, table
from frontjobs.texts import play_text, read_play, read_setup, setup_text

SHELL = (("group", "give", "listen", "take"), ("group",), ("give", "go", "listen", "take"), ("go",))
SETUP = ((("read",),), ("stop", "go", "stop"), SHELL)
PLAY = (("fore", 0), ("shell",), ("job", 0))
STANDING = ("fore", 1, "shell", "plain", 0, 1, ((0, (0, 0, True, "runs", "none", False)),))
ROW = ("none", 0, "shell", "plain", ())
LOG = (("fore", 0), ("job", 0))
TABLE = table(SETUP)
PAPER = ("comes", PLAY)
TEXT = setup_text(SETUP)

# Each function of the interface, and what it is passed by the names that stand there.
CALLS = [
    (is_setup, {"thing": SETUP}), (need_setup, {"thing": SETUP}), (need_wrong, {"thing": "locked"}),
    (is_standing, {"setup": SETUP, "thing": STANDING}), (need_standing, {"setup": SETUP, "thing": STANDING}),
    (job_of, {"setup": SETUP, "standing": STANDING, "number": 0}),
    (is_in_front, {"setup": SETUP, "standing": STANDING, "number": 0}),
    (is_meant, {"setup": SETUP, "standing": STANDING, "number": 0}),
    (can_be_done, {"setup": SETUP, "standing": STANDING, "event": ("shell",)}),
    (step, {"setup": SETUP, "standing": STANDING, "event": ("shell",)}),
    (events_at, {"setup": SETUP, "standing": STANDING}),
    (need_play, {"setup": SETUP, "thing": PLAY}), (is_play, {"setup": SETUP, "thing": PLAY}),
    (trace, {"setup": SETUP, "play": PLAY}), (last_standing, {"setup": SETUP, "play": PLAY}),
    (is_row, {"setup": SETUP, "thing": ROW}), (row_of, {"setup": SETUP, "standing": STANDING}),
    (covers, {"setup": SETUP, "row": ROW, "standing": START}),
    (is_under, {"setup": SETUP, "row": ROW, "other": ROW}), (behind, {"setup": SETUP, "row": ROW}),
    (is_table, {"setup": SETUP, "thing": TABLE}), (is_closed, {"setup": SETUP, "thing": TABLE}),
    (bars, {"setup": SETUP, "wrong": "locked", "thing": TABLE}), (table, {"setup": SETUP}),
    (lean, {"setup": SETUP, "thing": TABLE}),
    (can_come, {"setup": SETUP, "wrong": "locked"}), (fewest, {"setup": SETUP, "wrong": "unasked"}),
    (paper, {"setup": SETUP, "wrong": "unasked"}),
    (check_paper, {"setup": SETUP, "wrong": "unasked", "paper": PAPER}), (wrongs_of, {"setup": SETUP}),
    (mends, {"setup": SETUP}), (gains, {"setup": SETUP, "shell": ((), (), (), ())}),
    (mended, {"setup": SETUP, "wrong": "unasked"}), (rules_for, {"setup": SETUP, "wrong": "unasked"}),
    (quietest, {"setup": SETUP}),
    (visible, {"setup": SETUP, "play": PLAY}), (need_log, {"setup": SETUP, "thing": LOG}),
    (fits, {"setup": SETUP, "log": LOG}), (may, {"setup": SETUP, "log": LOG}), (must, {"setup": SETUP, "log": LOG}),
    (fitting, {"setups": (SETUP, SETUP), "log": LOG}),
    (setup_text, {"setup": SETUP}), (read_setup, {"string": TEXT}), (play_text, {"play": PLAY}),
    (read_play, {"string": "fore 0, shell"}),
]

# What may be changed of what a call returns.
LISTS = (events_at, fitting)


class Example(unittest.TestCase):

    def test_the_worked_example_whole(self):
        shell = (("group", "give", "listen", "take"), ("group",), ("give", "go", "listen", "take"), ("go",))
        setup = ((("read",),), ("stop", "go", "stop"), shell)
        self.assertEqual(trace(setup, (("fore", 0), ("shell",), ("job", 0))), (None, None, "unasked"))
        self.assertEqual(
            (fewest(setup, "unasked"), fewest(setup, "misread"), fewest(setup, "locked")), ((1, 3), (1, 2), None))
        self.assertEqual(wrongs_of(setup), ("misread", "misstop", "misbreak", "unasked"))

    def test_its_parts_agree(self):
        for wrong in WRONGS:
            word, shown = paper(SETUP, wrong)
            self.assertEqual(word, "comes" if wrong in wrongs_of(SETUP) else "never")
            self.assertEqual(Desk(TEXT).say("fewest " + wrong) == "never", word == "never")
            if word == "comes":
                world = World(SETUP)
                self.assertEqual([world.do(event) for event in shown][-1], wrong)
                self.assertIn(wrong, must(SETUP, visible(SETUP, shown)))
                self.assertEqual(Desk(TEXT).say("do " + play_text(shown)).split(", ")[-1], wrong)


class Calls(unittest.TestCase):

    def test_by_position_and_by_names(self):
        for function, told in CALLS:
            backwards = dict(reversed(list(told.items())))
            first = function(*told.values())
            self.assertEqual(repr(function(**told)), repr(first), function)
            self.assertEqual(repr(function(**backwards)), repr(first), function)

    def test_every_function_of_the_interface_is_called_here(self):
        from test_interface import FUNCTIONS
        names = sorted([name + "." + line.partition("(")[0] for name, lines in FUNCTIONS.items() for line in lines])
        called = [function.__module__.partition(".")[2] + "." + function.__name__ for function, _ in CALLS]
        self.assertEqual(sorted(called + ["live.under"]), names)

    def test_classes_by_names(self):
        world = World(setup=SETUP)
        self.assertIs(world.do(event=("fore", 0)), None)
        self.assertIs(world(), None)
        self.assertIs(world.back(many=2), None)
        self.assertEqual(under(deed=len, manager=world.copy().trial()), 0)
        desk = Desk(text=TEXT)
        self.assertEqual((desk.say(line="do look"), desk.world == world), ("-", True))
        for name in ("BadSetup", "BadStanding", "BadPlay", "BadRow", "BadPaper", "BadLog", "BadText"):
            self.assertEqual(getattr(errors, name)(place=(1,)).place, (1,))
        self.assertEqual(errors.BadEvent(event=3).event, 3)
        self.assertEqual(errors.BadWrong(wrong=3).wrong, 3)
        self.assertEqual(errors.TooMany(most=3).most, 3)
        self.assertEqual(errors.Missing(number=3).number, 3)

    def test_what_is_passed_stays(self):
        for function, told in CALLS:
            before = copy.deepcopy(told)
            function(**told)
            self.assertEqual(repr(told), repr(before), function)

    def test_equal_calls_tell_equal_things(self):
        for function, told in CALLS:
            first = function(**told)
            self.assertEqual(repr(function(**copy.deepcopy(told))), repr(first), function)

    def test_what_is_returned_is_the_callers_own(self):
        for function, told in CALLS:
            first = function(**told)
            kept = repr(first)
            if function in LISTS:
                self.assertIsInstance(first, list)
                first.reverse()
                first.append(None)
                self.assertEqual(repr(function(**told)), kept, function)
            else:
                self.assertNotIsInstance(first, (list, dict, set), function)

    def test_what_is_needed_is_told_itself(self):
        for function, told in CALLS:
            if function.__name__.startswith("need_"):
                self.assertIs(function(**told), told["thing"])

    def test_bad_setups_are_refused_ahead_of_all(self):
        for function, told in CALLS:
            if "setup" in told:
                for place, bad in (((), None), (("rules",), (SETUP[0], None, SHELL)), (("shell", 1), (
                        SETUP[0], SETUP[1], ((), None, (), ())))):
                    # All else is no such thing either.
                    others = {name: ... for name in told}
                    with self.assertRaises(errors.BadSetup) as refused:
                        function(**dict(others, setup=bad))
                    self.assertEqual(refused.exception.place, place)
        with self.assertRaises(errors.BadSetup):
            World(None)

    def test_a_call_that_raises_changes_nothing(self):
        world, desk = World(SETUP), Desk(TEXT)
        world.do(("fore", 0))
        desk.say("do fore 0")
        for deed in (lambda: world.do(("fore", 0)), lambda: world.back(many=5), lambda: world.do(None),
                     lambda: under(world.trial(), lambda given: given.do(("hear", 0)))):
            with self.assertRaises((errors.JobError, errors.MissError)):
                deed()
            self.assertEqual(world.play, (("fore", 0),))
        for line in ("do fore 0", "back 7", "do shell, hear 9", None):
            self.assertEqual(desk.say(line), "bad line")
            self.assertEqual(desk.world.play, (("fore", 0),))


if __name__ == "__main__":
    unittest.main()
