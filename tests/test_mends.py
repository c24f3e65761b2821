import copy
import time
import unittest

from frontjobs.deciding import can_come, wrongs_of
from frontjobs.errors import BadQuestion, BadSetup, BadWrong
from frontjobs.mends import gains, mended, mends, quietest, rules_for
from frontjobs.setups import WRONGS, is_setup
from samples import NEITHER, SETUP, THINGS, put
from shells import LARGEST, SETUPS, SHELL, WORKED

# Refused ahead of all; what these do decides which place is told.
BAD_SETUPS = [((), thing) for thing in NEITHER + [(), (0,), ("group",), 5, True, "fore"]] + [
    (("kinds",), put(WORKED, 0, ())), (("kinds", 0), put(WORKED, 0, (("sing",),))),
    (("rules",), put(WORKED, 1, ("go",))), (("shell",), put(WORKED, 2, ())),
    (("shell", 2), put(WORKED, 2, put(SHELL, 2, None)))]


def shell_of(fore=(), back=(), front=(), behind=()):
    return (fore, back, front, behind)


def with_shell(shell):
    return put(WORKED, 2, shell)


class Mends(unittest.TestCase):

    def comes(self, shell, *want):
        told = mends(with_shell(shell))
        self.assertIsInstance(told, tuple)
        self.assertEqual(list(told), sorted(want))
        self.assertEqual(sorted(set(told)), list(told))
        self.assertNotIn(shell, told)
        for one in told:
            self.assertIs(is_setup(with_shell(one)), True)

    def test_one_step_left_out(self):
        self.comes(shell_of(fore=("go",)), shell_of())
        self.comes(shell_of(behind=("take",)), shell_of())
        self.comes(shell_of(fore=("go",), front=("give",)), shell_of(front=("give",)), shell_of(fore=("go",)))

    def test_two_steps_exchanged(self):
        self.comes(shell_of(back=("go", "give")), shell_of(back=("go",)), shell_of(back=("give",)),
                   shell_of(back=("give", "go")))

    def test_side_by_side_only(self):
        told = [one[0] for one in mends(with_shell(shell_of(("group", "give", "go"))))]
        self.assertEqual(sorted(told), sorted([
            ("give", "go"), ("group", "go"), ("group", "give"), ("give", "group", "go"), ("group", "go", "give")]))
        self.assertNotIn(("go", "give", "group"), told)

    def test_what_is_the_same_is_not_exchanged(self):
        self.comes(shell_of(("go", "go")), shell_of(("go",)))
        self.comes(shell_of(("go",) * 6), shell_of(("go",) * 5))

    def test_what_comes_in_two_ways_is_one(self):
        self.comes(shell_of(("go", "go", "take")), shell_of(("go", "take")), shell_of(("go", "go")),
                   shell_of(("go", "take", "go")))

    def test_scripts_do_not_exchange_steps(self):
        self.comes(shell_of(("go",), ("take",)), shell_of((), ("take",)), shell_of(("go",)))

    def test_a_shell_without_steps(self):
        self.comes(shell_of())

    def test_of_the_worked_example(self):
        fore, back, front, behind = SHELL
        told = mends(WORKED)
        # Four and three of the first SCRIPT, one, four and three, one.
        self.assertEqual(len(told), 16)
        for at in range(4):
            self.assertIn((fore[:at] + fore[at + 1:], back, front, behind), told)
            self.assertIn((fore, back, front[:at] + front[at + 1:], behind), told)
        for script in (("give", "group", "listen", "take"), ("group", "listen", "give", "take"),
                       ("group", "give", "take", "listen")):
            self.assertIn((script, back, front, behind), told)
        self.assertIn((fore, (), front, behind), told)
        self.assertIn((fore, back, front, ()), told)

    def test_large_shells(self):
        shell = (("group", "give", "go", "wait", "listen", "take"),) * 4
        self.assertEqual(len(mends(with_shell(shell))), 4 * (6 + 5))
        self.assertEqual(len(mends(with_shell((("go", "take") * 3,) * 4))), 4 * (6 + 5))


class Gains(unittest.TestCase):

    def test_the_worked_example_and_others(self):
        fore, back, front, behind = SHELL
        open_fore = (("group", "give", "listen"), back, front, behind)
        self.assertEqual(gains(WORKED, open_fore), ((), ("locked",)))
        self.assertEqual(gains(with_shell(open_fore), SHELL), (("locked",), ()))
        self.assertEqual(gains(WORKED, SHELL), ((), ()))
        self.assertEqual(gains(WORKED, shell_of()), (("unasked",), ()))
        waiting = (("wait",), ("wait",), (), ())
        self.assertEqual(gains(WORKED, waiting), (("unasked",), ("deafwait",)))

    def test_in_the_order_of_the_wrongs(self):
        for name, setup in SETUPS.items():
            here = wrongs_of(setup)
            for shell in (shell_of(), SHELL, (("give",), (), ("wait",), ())):
                there = wrongs_of(put(setup, 2, shell))
                want = (tuple([wrong for wrong in WRONGS if wrong in here and wrong not in there]),
                        tuple([wrong for wrong in WRONGS if wrong in there and wrong not in here]))
                self.assertEqual(gains(setup, shell), want, name)

    def test_bad_question(self):
        bad = THINGS + [SHELL[:3], SHELL + ((),), list(SHELL), put(SHELL, 1, ["group"]), put(SHELL, 3, ("sing",)),
                        put(SHELL, 0, ("go",) * 7), WORKED, ("go",), ((), (), (), None)]
        for shell in bad:
            with self.assertRaises(BadQuestion):
                gains(WORKED, shell)


class Mended(unittest.TestCase):

    def test_by_hand(self):
        open_fore = with_shell((("group", "give", "listen"),) + SHELL[1:])
        told = mended(open_fore, "locked")
        # Without "give", or without a HAND at it, the front is not given away. If HAND is ended, nobody is in front.
        self.assertEqual(told, ((("group", "listen"),) + SHELL[1:], (("group", "listen", "give"),) + SHELL[1:]))
        self.assertIn((("give", "group", "listen"),) + SHELL[1:], mends(open_fore))
        # No MEND keeps a key from the job that is started behind, if that is in front at first.
        self.assertEqual(mended(WORKED, "misstop"), ())
        self.assertEqual(mended(WORKED, "deafwait"), mends(WORKED))

    def test_it_is_those_mends_with_which_it_cannot_come(self):
        for name in ("worked", "never takes the front back", "gives the front away", "waits", "written plain"):
            setup = SETUPS[name]
            for wrong in WRONGS:
                want = [shell for shell in mends(setup) if not can_come(put(setup, 2, shell), wrong)]
                self.assertEqual(mended(setup, wrong), tuple(want))


class Rules(unittest.TestCase):

    EVERY = sorted([(reads, writes, takes) for reads in ("stop", "fail", "wait") for writes in ("go", "stop")
                    for takes in ("go", "stop")])

    def test_by_hand(self):
        self.assertEqual(rules_for(WORKED, "misread"), ())
        self.assertEqual(list(rules_for(WORKED, "locked")), self.EVERY)
        # A job that reads behind stops if READS is "stop", and only then.
        self.assertEqual(list(rules_for(WORKED, "unasked")), [one for one in self.EVERY if one[0] != "stop"])
        writer = put(WORKED, 0, (("write",),))
        self.assertEqual(list(rules_for(writer, "unasked")), [one for one in self.EVERY if one[1] == "go"])
        taker = put(WORKED, 0, (("raw",),))
        self.assertEqual(list(rules_for(taker, "unasked")), [one for one in self.EVERY if one[2] == "go"])

    def test_its_own_rules_among_them_or_not(self):
        for rules in self.EVERY:
            setup = put(WORKED, 1, rules)
            self.assertEqual(rules_for(setup, "unasked"), rules_for(WORKED, "unasked"))
            self.assertIs(rules in rules_for(setup, "unasked"), rules[0] != "stop")

    def test_it_is_those_with_which_it_cannot_come(self):
        for name in ("raw and writing behind", "takes the front", "held", "three jobs, few steps"):
            setup = SETUPS[name]
            for wrong in WRONGS:
                want = [rules for rules in self.EVERY if not can_come(put(setup, 1, rules), wrong)]
                self.assertEqual(rules_for(setup, wrong), tuple(want))


class Quietest(unittest.TestCase):

    def test_the_shell_itself_ahead_of_all(self):
        self.assertEqual(quietest(WORKED), (4, SHELL))
        self.assertEqual(quietest(with_shell(shell_of())), (3, shell_of()))

    def test_the_first_mend_with_so_few(self):
        open_fore = with_shell((("group", "give", "listen"),) + SHELL[1:])
        self.assertEqual(len(wrongs_of(open_fore)), 5)
        many = {shell: len(wrongs_of(with_shell(shell))) for shell in mends(open_fore)}
        least = min(many.values())
        self.assertLess(least, 5)
        self.assertEqual(quietest(open_fore), (least, [shell for shell in mends(open_fore) if many[shell] == least][0]))

    def test_of_some_setups(self):
        for name, setup in SETUPS.items():
            best = (len(wrongs_of(setup)), setup[2])
            for shell in mends(setup):
                many = len(wrongs_of(put(setup, 2, shell)))
                if many < best[0]:
                    best = (many, shell)
            self.assertEqual(quietest(setup), best, name)


class Calls(unittest.TestCase):

    def test_bad_setups_come_first(self):
        for place, setup in BAD_SETUPS:
            for call in (lambda: mends(setup), lambda: gains(setup, None), lambda: mended(setup, None),
                         lambda: rules_for(setup, None), lambda: quietest(setup)):
                with self.assertRaises(BadSetup) as told:
                    call()
                self.assertEqual(told.exception.place, place)

    def test_bad_wrongs(self):
        for wrong in NEITHER + [0, True, (), "Locked", "locked ", ("locked",), "fore"]:
            # The second SHELL has no MENDs.
            for setup in (WORKED, put(WORKED, 2, ((), (), (), ()))):
                for call in (mended, rules_for):
                    with self.assertRaises(BadWrong) as told:
                        call(setup, wrong)
                    self.assertIs(told.exception.wrong, wrong)

    def test_by_names(self):
        self.assertEqual(mends(setup=WORKED), mends(WORKED))
        self.assertEqual(gains(shell=shell_of(), setup=WORKED), (("unasked",), ()))
        self.assertEqual(mended(wrong="misstop", setup=WORKED), ())
        self.assertEqual(rules_for(wrong="misread", setup=WORKED), ())
        self.assertEqual(quietest(setup=WORKED), (4, SHELL))

    def test_what_is_passed_stays_and_equal_calls_tell_equal_things(self):
        for setup in (WORKED, SETUP):
            before = copy.deepcopy(setup)
            self.assertEqual(repr(mends(setup)), repr(mends(setup)))
            self.assertEqual(repr(setup), repr(before))
        told = gains(WORKED, SHELL), mended(WORKED, "locked"), rules_for(WORKED, "unasked"), quietest(WORKED)
        again = gains(WORKED, SHELL), mended(WORKED, "locked"), rules_for(WORKED, "unasked"), quietest(WORKED)
        self.assertEqual(repr(told), repr(again))

    def test_the_largest_setups_in_time(self):
        for name, setup in LARGEST.items():
            for call in (lambda: mends(setup), lambda: gains(setup, SHELL), lambda: mended(setup, "deafwait"),
                         lambda: rules_for(setup, "deafwait"), lambda: quietest(setup)):
                began = time.monotonic()
                call()
                self.assertLess(time.monotonic() - began, 10, name)


if __name__ == "__main__":
    unittest.main()
