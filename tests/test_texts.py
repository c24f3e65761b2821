import copy
import random
import time
import unittest

import plain
from frontjobs.errors import BadQuestion, BadSetup, BadText
from frontjobs.setups import ACTS, STEPS
from frontjobs.texts import play_text, read_play, read_setup, setup_text
from samples import NEITHER, SETUP, THINGS, put
from shells import LARGEST, SETUPS, WORKED

TEXT = "kind read\nrules stop go stop\nfore group give listen take\nback group\nfront give go listen take\nbehind go"
LINES = TEXT.split("\n")
EVENTS = (("fore", 0), ("shell",), ("job", 0), ("look",))


class SetupText(unittest.TestCase):

    def test_the_worked_example(self):
        self.assertEqual(setup_text(WORKED), TEXT)
        self.assertEqual(read_setup(TEXT), WORKED)

    def test_scripts_without_steps(self):
        setup = ((("hold", "again"), ("write",)), ("wait", "stop", "go"), ((), (), ("go",), ()))
        text = "kind hold again\nkind write\nrules wait stop go\nfore\nback\nfront go\nbehind"
        self.assertEqual(setup_text(setup), text)
        self.assertEqual(repr(read_setup(text)), repr(setup))

    def test_every_word(self):
        setup = ((ACTS[:5], ACTS[3:]), ("fail", "go", "go"), (STEPS[:6], STEPS[1:], ("plain",), ()))
        self.assertEqual(read_setup(setup_text(setup)), setup)

    def test_there_and_back(self):
        chance = random.Random(4)
        setups = list(SETUPS.values()) + list(LARGEST.values()) + [SETUP]
        setups += [plain.chance_setup(chance, 5, 6) for _ in range(100)]
        for setup in setups:
            self.assertEqual(repr(read_setup(setup_text(setup))), repr(setup))

    def test_bad_setup(self):
        for place, setup in (((), None), ((), TEXT), ((), WORKED + (0,)), (("kinds", 0), put(WORKED, 0, ((),))),
                             (("rules",), put(WORKED, 1, ())), (("shell",), put(WORKED, 2, []))):
            with self.assertRaises(BadSetup) as told:
                setup_text(setup)
            self.assertEqual(told.exception.place, place)


class ReadSetup(unittest.TestCase):

    def bad(self, text, place):
        with self.assertRaises(BadText) as told:
            read_setup(text)
        self.assertEqual(repr(told.exception.place), repr(place), text)

    def bad_lines(self, lines, place):
        self.bad("\n".join(lines), place)

    def test_no_string(self):
        for thing in THINGS + [LINES, TEXT.encode(), WORKED]:
            if not isinstance(thing, str):
                self.bad(thing, None)

    def test_one_to_three_kinds(self):
        for many in (1, 2, 3):
            self.assertEqual(len(read_setup("\n".join(LINES[:1] * many + LINES[1:]))[0]), many)
        self.bad_lines(LINES[:1] * 4 + LINES[1:], 3)
        self.bad_lines(LINES[:1] * 5 + LINES[1:], 3)
        self.bad_lines(LINES[1:], 0)

    def test_one_to_five_acts(self):
        for many in range(1, 6):
            self.assertEqual(read_setup("\n".join(["kind" + " hold" * many] + LINES[1:]))[0], (("hold",) * many,))
        for many in (0, 6, 7):
            self.bad_lines(["kind" + " hold" * many] + LINES[1:], 0)
            self.bad_lines(LINES[:1] + ["kind" + " hold" * many] + LINES[1:], 1)

    def test_at_most_six_steps(self):
        for many in range(7):
            for at in range(2, 6):
                line = LINES[at].split(" ")[0] + " go" * many
                self.assertEqual(read_setup("\n".join(put(tuple(LINES), at, line)))[2][at - 2], ("go",) * many)
        for many in (7, 8):
            for at in range(2, 6):
                self.bad_lines(put(tuple(LINES), at, LINES[at].split(" ")[0] + " go" * many), at)

    def test_a_line_has_to_come(self):
        for many in range(1, 6):
            self.bad_lines(LINES[:many], many)
        self.bad_lines(LINES[:1] * 3, 3)
        self.bad("", 0)

    def test_nothing_behind(self):
        for line in ("", " ", "behind go", "kind read", "look"):
            self.bad_lines(LINES + [line], 6)
            self.bad_lines(LINES + [line, ""], 6)
        self.bad(TEXT + "\n", 6)

    def test_a_line_otherwise(self):
        for at in range(6):
            lines = tuple(LINES)
            for line in ("", " ", "look", LINES[at] + " ", " " + LINES[at], LINES[at].replace(" ", "  ", 1) + " ",
                         LINES[at].upper(), LINES[at] + " sing", LINES[at] + "\r", LINES[at] + "\t", LINES[at][1:],
                         LINES[at] + ",", LINES[at].replace(" ", "\t"), LINES[at][:-1], LINES[at] + "\x0b"):
                if at == 5 and line == LINES[at].replace(" ", "\t") and " " not in LINES[at]:
                    continue
                self.bad_lines(put(lines, at, line), at)
            self.bad_lines(lines[:at] + ("",) + lines[at:], at)

    def test_a_line_left_out(self):
        for at in range(6):
            self.bad_lines(LINES[:at] + LINES[at + 1:], at)

    def test_a_line_told_twice(self):
        self.assertEqual(read_setup("\n".join(LINES[:1] + LINES))[0], (("read",),) * 2)
        for at in range(1, 6):
            self.bad_lines(LINES[:at + 1] + LINES[at:], at + 1)

    def test_lines_in_another_order(self):
        for at in range(5):
            lines = list(LINES)
            lines[at], lines[at + 1] = lines[at + 1], lines[at]
            self.bad_lines(lines, at)

    def test_the_rules(self):
        for line in ("rules", "rules stop go", "rules stop go stop stop", "rules wait wait go", "rules go go go",
                     "rules stop fail go", "rules stop go fail", "rule stop go stop"):
            self.bad_lines(put(tuple(LINES), 1, line), 1)
        for reads in ("stop", "fail", "wait"):
            self.assertEqual(read_setup("\n".join(put(tuple(LINES), 1, f"rules {reads} stop go")))[1], (reads, "stop", "go"))

    def test_words_of_another_line(self):
        self.bad_lines(put(tuple(LINES), 0, "kind give"), 0)
        self.bad_lines(put(tuple(LINES), 2, "fore read"), 2)
        self.bad_lines(put(tuple(LINES), 2, "fore front"), 2)

    def test_the_first_line_is_told(self):
        self.bad_lines(["kind sing", "rules", "fore sing"], 0)
        self.bad_lines([LINES[0], "kind sing", "rules", "fore sing"], 1)
        self.bad_lines(LINES[:3] + ["back sing", "front sing"], 3)

    def test_a_sign_otherwise_put_in_or_left_out(self):
        chance = random.Random(6)
        for _ in range(600):
            at = chance.randrange(len(TEXT))
            sign = chance.choice(" \nabgio,-09~")
            text = TEXT[:at] + chance.choice(["", sign, sign + TEXT[at]]) + TEXT[at + 1:]
            try:
                self.assertEqual(setup_text(read_setup(text)), text)
            except BadText as error:
                lines = text.split("\n")
                self.assertNotEqual(text, TEXT)
                self.assertTrue(0 <= error.place <= len(lines))
                same = [line == other for line, other in zip(lines, LINES)] + [False]
                # A line that is otherwise may stand all the same.
                self.assertGreaterEqual(error.place, same.index(False))


class PlayText(unittest.TestCase):

    def test_the_worked_example(self):
        self.assertEqual(play_text(EVENTS), "fore 0, shell, job 0, look")
        self.assertEqual(read_play("fore 0, shell, job 0, look"), EVENTS)

    def test_the_empty_one(self):
        self.assertEqual(play_text(()), "")
        self.assertEqual(repr(read_play("")), "()")

    def test_every_event(self):
        for word in ("shell", "look"):
            self.assertEqual(play_text(((word,),)), word)
            self.assertEqual(read_play(word), ((word,),))
        for word in ("fore", "back", "front", "behind", "hear", "job", "line", "stop", "break"):
            for number in (0, 1, 9, 10, 99, 100, 999):
                self.assertEqual(play_text(((word, number),)), f"{word} {number}")
                self.assertEqual(repr(read_play(f"{word} {number}")), repr(((word, number),)))

    def test_by_their_form_alone(self):
        play = (("job", 999), ("hear", 500), ("fore", 77)) * 200
        self.assertEqual(read_play(play_text(play)), play)

    def test_bad_question(self):
        events = [("look", 0), ("shell", 0), ("fore",), ("job",), ("job", -1), ("job", 1000), ("job", 10 ** 999),
                  ("job", True), ("job", False), ("job", "0"), ("job", 0.0), ("job", None), ("job", 0, 0), ["job", 0],
                  ("Job", 0), ("sing",), ("sing", 0), "look", ((("look",),),), (0, "job")]
        for thing in THINGS + events:
            for play in ((thing,), EVENTS + (thing,), (thing,) + EVENTS):
                with self.assertRaises(BadQuestion):
                    play_text(play)
            if not (isinstance(thing, tuple) and len(thing) == 0):
                with self.assertRaises(BadQuestion):
                    play_text(thing)
        with self.assertRaises(BadQuestion):
            play_text(list(EVENTS))


class ReadPlay(unittest.TestCase):

    def bad(self, text, place):
        with self.assertRaises(BadText) as told:
            read_play(text)
        self.assertEqual(repr(told.exception.place), repr(place), text)

    def test_no_string(self):
        for thing in THINGS + [EVENTS, b"look", ["look"]]:
            if not isinstance(thing, str):
                self.bad(thing, None)

    def test_the_first_piece_that_is_none(self):
        pieces = [" ", "look ", " look", "Look", "look 0", "shell 1", "job", "job ", "job  0", "job 0 ", "job 0 0",
                  "job 00", "job 01", "job 007", "job 1000", "job 9999", "job -1", "job +1", "job 1.", "job x", "job 0x",
                  "sing", "sing 0", "job,0", "look,shell", "look\n", "job\n0", "job \xb2", "job \u0663", "0", "0 job", ","]
        for piece in pieces:
            self.bad(piece, 0)
            self.bad("fore 0, " + piece, 1)
            self.bad("fore 0, shell, " + piece + ", look, " + piece, 2)

    def test_empty_pieces(self):
        self.bad(", ", 0)
        self.bad("look, ", 1)
        self.bad(", look", 0)
        self.bad("look, , look", 1)
        self.bad("look,", 0)
        self.bad("look,  look", 1)

    def test_a_sign_otherwise_put_in_or_left_out(self):
        chance = random.Random(8)
        text = "fore 0, shell, job 10, look, break 999, hear 1"
        for _ in range(600):
            at = chance.randrange(len(text))
            sign = chance.choice(" ,\nalo-0129")
            other = text[:at] + chance.choice(["", sign, sign + text[at]]) + text[at + 1:]
            try:
                self.assertEqual(play_text(read_play(other)), other)
            except BadText as error:
                pieces = other.split(", ")
                for piece in pieces[:error.place]:
                    read_play(piece)
                with self.assertRaises(BadText):
                    read_play(pieces[error.place] or " ")


class Calls(unittest.TestCase):

    def test_by_names(self):
        self.assertEqual(setup_text(setup=WORKED), TEXT)
        self.assertEqual(read_setup(string=TEXT), WORKED)
        self.assertEqual(play_text(play=EVENTS), "fore 0, shell, job 0, look")
        self.assertEqual(read_play(string="look"), (("look",),))

    def test_what_is_passed_stays(self):
        before = copy.deepcopy((SETUP, EVENTS))
        self.assertEqual(setup_text(SETUP), setup_text(SETUP))
        self.assertEqual(play_text(EVENTS), play_text(EVENTS))
        self.assertEqual((SETUP, EVENTS), before)

    def test_in_time(self):
        began = time.monotonic()
        for thing in ("look, " * 400, "kind\n" * 400, " " * 2000, "\n" * 2000, "kind read\n" * 200, "job 1, " * 300, "x" * 2000):
            for call in (read_setup, read_play):
                with self.assertRaises(BadText):
                    call(thing)
        self.assertEqual(len(read_play(play_text((("job", 999),) * 222))), 222)
        self.assertLess(time.monotonic() - began, 5)
        self.assertEqual([thing for thing in NEITHER if thing.__class__ is str and thing == TEXT], [])


if __name__ == "__main__":
    unittest.main()
