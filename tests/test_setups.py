import copy
import unittest

from frontjobs.errors import BadSetup, BadWrong
from frontjobs.setups import ACTS, SCRIPTS, STEPS, WRONGS, is_setup, need_setup, need_wrong
from samples import KINDS, NEITHER, RULES, SETUP, SHELL, THINGS, put

NO_SHELL = ((), (), (), ())


class Words(unittest.TestCase):

    def test_the_words_stand_in_the_order_of_the_document(self):
        self.assertEqual(ACTS, ("group", "front", "read", "write", "raw", "plain", "hold", "again"))
        self.assertEqual(STEPS, ("group", "give", "go", "wait", "listen", "take", "plain"))
        self.assertEqual(SCRIPTS, ("fore", "back", "front", "behind"))
        self.assertEqual(WRONGS, (
            "misread", "misstop", "misbreak", "unasked", "overwrite", "locked", "leftraw", "deafwait"))

    def test_they_are_tuples(self):
        for words in (ACTS, STEPS, SCRIPTS, WRONGS):
            self.assertIsInstance(words, tuple)


class Setups(unittest.TestCase):

    def good(self, thing):
        self.assertIs(is_setup(thing), True)
        self.assertIs(need_setup(thing), thing)

    def bad(self, thing, place):
        self.assertIs(is_setup(thing), False)
        with self.assertRaises(BadSetup) as told:
            need_setup(thing)
        self.assertEqual(told.exception.place, place)
        self.assertIsInstance(told.exception.place, tuple)

    def test_a_setup_is_given_back_itself(self):
        self.good(SETUP)
        self.good(tuple([KINDS, RULES, SHELL]))

    def test_each_act_may_stand_at_each_place_of_a_kind(self):
        for act in ACTS:
            for many in range(1, 6):
                self.good((((act,) * many,), RULES, SHELL))
                self.good(((("read",), ("read",) * (many - 1) + (act,)), RULES, SHELL))

    def test_each_step_may_stand_at_each_place_of_a_script(self):
        for step in STEPS:
            for at in range(4):
                for many in range(7):
                    self.good((KINDS, RULES, put(NO_SHELL, at, (step,) * many)))

    def test_all_the_rules(self):
        for reads in ("stop", "fail", "wait"):
            for writes in ("go", "stop"):
                for takes in ("go", "stop"):
                    self.good((KINDS, (reads, writes, takes), SHELL))

    def test_what_is_no_tuple_of_three(self):
        for thing in THINGS:
            if not (isinstance(thing, tuple) and len(thing) == 3):
                self.bad(thing, ())
        for thing in (SETUP[:2], SETUP + ((),), SETUP + (SHELL,), (), list(SETUP), {0: SETUP}, SETUP[::2]):
            self.bad(thing, ())

    def test_how_many_kinds(self):
        for many in (1, 2, 3):
            self.good(((("read",),) * many, RULES, SHELL))
        for many in (0, 4, 5, 1000):
            self.bad(((("read",),) * many, RULES, SHELL), ("kinds",))

    def test_kinds_that_are_no_tuple(self):
        for thing in NEITHER + [list(KINDS), "read", 0, 1, True, False, ()]:
            if not isinstance(thing, tuple) or not thing:
                self.bad((thing, RULES, SHELL), ("kinds",))

    def test_how_many_acts(self):
        for at in range(3):
            for many in (1, 2, 3, 4, 5):
                self.good((put(KINDS, at, ("hold",) * many), RULES, SHELL))
            for many in (0, 6, 7, 1000):
                self.bad((put(KINDS, at, ("hold",) * many), RULES, SHELL), ("kinds", at))

    def test_a_kind_that_is_none(self):
        for at in range(3):
            for thing in NEITHER + [list(KINDS[0]), 0, 1, True, False, "read", "group", KINDS]:
                self.bad((put(KINDS, at, thing), RULES, SHELL), ("kinds", at))

    def test_an_act_that_is_none(self):
        steps = ["give", "go", "wait", "listen", "take"]
        for thing in NEITHER + steps + [0, 1, True, False, ("read",), ["read"], "none", "READ"]:
            for kind in ((thing,), (thing, "read"), ("read", thing), ("read",) * 4 + (thing,)):
                self.bad(((kind,), RULES, SHELL), ("kinds", 0))
                self.bad(((("read",), kind, ("read",)), RULES, SHELL), ("kinds", 1))
                self.bad(((("read",), ("write",), kind), RULES, SHELL), ("kinds", 2))

    def test_rules_that_are_none(self):
        wrong = [RULES[:2], RULES + ("go",), list(RULES), (), "stop", "abc", ("go", "go", "go"), 1, True]
        wrong += [("stop", "fail", "go"), ("stop", "go", "wait"), ("stop", "wait", "go"), ("stop", "go", "fail")]
        for thing in NEITHER + wrong:
            self.bad((KINDS, thing, SHELL), ("rules",))

    def test_a_rule_that_is_none(self):
        for at in range(3):
            for thing in NEITHER + [0, 1, True, False, "Stop", "GO", ("go",), ["stop"], ("stop",)]:
                self.bad((KINDS, put(RULES, at, thing), SHELL), ("rules",))

    def test_a_shell_that_is_no_tuple_of_four(self):
        for thing in NEITHER + [(), SHELL[:3], SHELL + ((),), list(SHELL), "abcd", 4, True, (("group",),) * 5]:
            self.bad((KINDS, RULES, thing), ("shell",))

    def test_how_many_steps(self):
        for at in range(4):
            for many in (0, 1, 5, 6):
                self.good((KINDS, RULES, put(SHELL, at, ("take",) * many)))
            for many in (7, 8, 1000):
                self.bad((KINDS, RULES, put(SHELL, at, ("take",) * many)), ("shell", at))

    def test_a_script_that_is_none(self):
        for at in range(4):
            for thing in NEITHER + [list(SHELL[0]), 0, 1, True, False, "take", "group", SHELL]:
                self.bad((KINDS, RULES, put(SHELL, at, thing)), ("shell", at))

    def test_a_step_that_is_none(self):
        acts = ["front", "read", "write", "raw", "hold", "again"]
        for at in range(4):
            for thing in NEITHER + acts + [0, 1, True, False, ("take",), ["take"], "none"]:
                for script in ((thing,), (thing, "go"), ("go", thing), ("go",) * 5 + (thing,)):
                    self.bad((KINDS, RULES, put(SHELL, at, script)), ("shell", at))

    def test_the_first_place_is_told(self):
        self.bad(((), (), ()), ("kinds",))
        self.bad((((), ()), (), ()), ("kinds", 0))
        self.bad(((("read",), (), ["x"]), (), ()), ("kinds", 1))
        self.bad(((("read",), ("read",), ()), (), ()), ("kinds", 2))
        self.bad((((),) * 4, (), ()), ("kinds",))
        self.bad((KINDS, (), ()), ("rules",))
        self.bad((KINDS, (), put(SHELL, 0, None)), ("rules",))
        self.bad((KINDS, RULES, (None,) * 5), ("shell",))
        self.bad((KINDS, RULES, (None,) * 4), ("shell", 0))
        self.bad((KINDS, RULES, ((), None, (), None)), ("shell", 1))
        self.bad((KINDS, RULES, ((), (), None, None)), ("shell", 2))
        self.bad((KINDS, RULES, ((), (), (), None)), ("shell", 3))
        self.bad((((),), RULES, (None,)), ("kinds", 0))

    def test_nothing_makes_it_fail(self):
        for thing in THINGS:
            self.assertIs(is_setup(thing), False)
            for at in range(3):
                self.assertIs(is_setup(put(SETUP, at, thing)), False)
                self.assertIs(is_setup((thing,) * at), False)

    def test_by_name(self):
        self.assertIs(is_setup(thing=SETUP), True)
        self.assertIs(need_setup(thing=SETUP), SETUP)
        with self.assertRaises(BadSetup):
            need_setup(thing=None)

    def test_equal_calls_have_equal_results_and_change_nothing(self):
        lists = [[list(kind) for kind in KINDS], list(RULES), [list(script) for script in SHELL]]
        before = copy.deepcopy(lists)
        for thing in (SETUP, lists, (lists, RULES, SHELL), (KINDS, lists, SHELL), (KINDS, RULES, lists)):
            self.assertEqual(is_setup(thing), is_setup(thing))
            places = []
            for _ in range(2):
                try:
                    places.append(need_setup(thing))
                except BadSetup as error:
                    places.append(error.place)
            self.assertEqual(places[0], places[1])
        self.assertEqual(lists, before)


class Wrongs(unittest.TestCase):

    def test_each_wrong_is_given_back_itself(self):
        for wrong in WRONGS:
            self.assertIs(need_wrong(wrong), wrong)
            self.assertIs(need_wrong(thing=wrong), wrong)

    def test_anything_else_is_refused_with_itself(self):
        words = ["Misread", "misread ", "mis", "look", "shell", "none", WRONGS, list(WRONGS), ("misread",)]
        for thing in NEITHER + words + [0, 1, True, False, (), ["misread"], {"misread": True}, b"misread"]:
            with self.assertRaises(BadWrong) as told:
                need_wrong(thing)
            self.assertIs(told.exception.wrong, thing)


if __name__ == "__main__":
    unittest.main()
