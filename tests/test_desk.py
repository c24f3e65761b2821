import random
import time
import unittest

import plain
from frontjobs.deciding import fewest, wrongs_of
from frontjobs.desk import Desk
from frontjobs.errors import BadText
from frontjobs.events import events_at
from frontjobs.live import World
from frontjobs.mends import quietest
from frontjobs.plays import last_standing, trace
from frontjobs.setups import WRONGS
from frontjobs.texts import play_text, setup_text
from samples import SETUP, THINGS
from shells import LARGEST, SETUPS, WORKED

TEXT = setup_text(WORKED)


class DeskTest(unittest.TestCase):

    def says(self, desk, line, want):
        self.assertEqual(repr(desk.say(line)), repr(want), line)

    def bad(self, desk, *lines):
        """That these are bad lines, and that nothing has changed then."""
        for line in lines:
            before = (desk.world.play, desk.world.standing)
            self.says(desk, line, "bad line")
            self.assertEqual((desk.world.play, desk.world.standing), before)


class Desks(DeskTest):

    def test_a_desk(self):
        desk = Desk(TEXT)
        self.assertIsInstance(desk.world, World)
        self.assertEqual(desk.world.setup, WORKED)
        self.assertEqual(desk.world.play, ())

    def test_bad_text(self):
        for thing in THINGS:
            if not isinstance(thing, str):
                with self.assertRaises(BadText) as told:
                    Desk(thing)
                self.assertIs(told.exception.place, None)
        for text, place in (("", 0), ("kind read", 1), (TEXT + "\n", 6), (TEXT.replace("group", "sing", 1), 2)):
            with self.assertRaises(BadText) as told:
                Desk(text)
            self.assertEqual(told.exception.place, place)

    def test_the_very_world(self):
        desk = Desk(TEXT)
        world = desk.world
        self.assertIs(desk.world, world)
        desk.say("do fore 0")
        self.assertIs(desk.world, world)
        self.assertEqual(world.play, (("fore", 0),))
        world.do(("shell",))
        self.says(desk, "events", "fore 0, shell")
        world.back(many=2)
        self.says(desk, "events", "none")
        with world.trial():
            desk.say("do look")
            self.says(desk, "events", "look")
        self.says(desk, "events", "none")


class Lines(DeskTest):

    def test_do(self):
        desk = Desk(TEXT)
        self.says(desk, "do fore 0", "-")
        self.says(desk, "do shell, job 0", "-, unasked")
        self.says(desk, "do shell, shell, shell, look", "-, -, -, -")
        self.says(desk, "do back 0, break 1", "-, misbreak")
        self.assertEqual(len(desk.world), 9)

    def test_all_or_none(self):
        desk = Desk(TEXT)
        self.bad(desk, "do fore 0, job 0", "do look, look, hear 0", "do fore 0, shell, sing", "do fore 1", "do job 999")
        desk.say("do fore 0")
        self.bad(desk, "do fore 0", "do shell, shell, shell", "do shell, fore 0", "do stop 0, stop 0")

    def test_at_most_300_events(self):
        desk = Desk(TEXT)
        self.says(desk, "do " + ", ".join(["look"] * 298), ", ".join(["-"] * 298))
        self.bad(desk, "do look, look, look")
        self.says(desk, "do look, look", "-, -")
        self.bad(desk, "do look", "do back 0")
        self.says(desk, "back 300", "done")
        self.says(desk, "events", "none")

    def test_trace_and_events(self):
        desk = Desk(TEXT)
        self.says(desk, "trace", "none")
        self.says(desk, "events", "none")
        desk.say("do look")
        self.says(desk, "trace", "-")
        self.says(desk, "events", "look")
        desk.say("do fore 0, shell, job 0")
        self.says(desk, "trace", "-, -, -, unasked")
        self.says(desk, "events", "look, fore 0, shell, job 0")

    def test_shell(self):
        desk = Desk(TEXT)
        self.says(desk, "shell", "none 0 shell plain -")
        desk.say("do fore 0, shell")
        self.says(desk, "shell", "fore 1 shell plain 0")
        desk.say("do shell")
        self.says(desk, "shell", "fore 2 0 plain 0")
        desk.say("do break 0")
        self.says(desk, "shell", "fore 2 nobody plain 0")
        desk.say("do shell")
        self.says(desk, "shell", "fore 3 nobody plain -")
        raw = Desk(setup_text(SETUPS["raw and writing behind"]))
        raw.say("do back 0, job 0")
        self.says(raw, "shell", "back 0 shell raw 0")

    def test_jobs(self):
        desk = Desk(setup_text(((("hold",), ("write", "hold")), ("stop", "stop", "go"), ((), ("group",), (), ()))))
        self.says(desk, "jobs", "none")
        desk.say("do fore 1")
        self.says(desk, "jobs", "0 1 0 shared runs none free")
        desk.say("do back 0, job 1, shell, job 0, stop 0")
        self.says(desk, "jobs", "0 1 1 shared stopped stop free; 1 0 1 own runs none held")
        desk.say("do hear 0, job 1")
        self.says(desk, "jobs", "0 1 1 shared stopped none free; 1 0 1 own ended end held")
        desk.say("do hear 1")
        self.says(desk, "jobs", "0 1 1 shared stopped none free")

    def test_back(self):
        desk = Desk(TEXT)
        desk.say("do fore 0, shell, job 0")
        self.says(desk, "back 1", "done")
        self.says(desk, "events", "fore 0, shell")
        self.bad(desk, "back 0", "back 3", "back 999", "back 00", "back 01", "back 001", "back 1000", "back -1", "back +1",
                 "back", "back ", "back  1", "back 1 ", "back one", "back 1.0", "back 1, 1", "back \xb2")
        self.says(desk, "back 2", "done")
        self.says(desk, "events", "none")
        self.bad(desk, "back 1")

    def test_can(self):
        desk = Desk(TEXT)
        self.says(desk, "can", "back 0, fore 0, look")
        desk.say("do fore 0")
        self.says(desk, "can", "break 0, line 0, look, shell, stop 0")

    def test_fewest(self):
        desk = Desk(TEXT)
        self.says(desk, "fewest unasked", "1 3")
        self.says(desk, "fewest misread", "1 2")
        self.says(desk, "fewest locked", "never")
        self.bad(desk, "fewest", "fewest ", "fewest sing", "fewest  locked", "fewest locked ", "fewest locked, misread")

    def test_wrongs_and_quietest(self):
        desk = Desk(TEXT)
        self.says(desk, "wrongs", "misread, misstop, misbreak, unasked")
        self.says(desk, "quietest", "4")

    def test_none_of_these(self):
        desk = Desk(TEXT)
        self.bad(desk, *[thing for thing in THINGS if not (isinstance(thing, str) and thing == "shell")])
        words = ["trace", "events", "shell", "jobs", "can", "wrongs", "quietest"]
        for word in words:
            self.bad(desk, word + " ", " " + word, word + " 0", word.upper(), word + "\n", word[1:], word + "s", word + ",")
        self.bad(desk, "", " ", "do", "do ", "do  look", "do look ", "do look,", "do look, ", "do look,look", "Do look",
                 "look", "do\tlook", "doo look", "do do look", "fore 0", "sing", "trace, events", "bad line", 7, b"can",
                 ["can"], ("can",), None, True)
        for word in words:
            self.assertNotEqual(desk.say(word), "bad line")

    def test_of_some_setups(self):
        for setup in list(SETUPS.values()) + [SETUP]:
            desk = Desk(setup_text(setup))
            self.says(desk, "can", play_text(tuple(events_at(setup, desk.world.standing))))
            if setup != SETUP:
                self.says(desk, "wrongs", ", ".join(wrongs_of(setup)) or "none")
                self.says(desk, "quietest", str(quietest(setup)[0]))
                for wrong in WRONGS:
                    least = fewest(setup, wrong)
                    self.says(desk, "fewest " + wrong, "never" if least is None else f"{least[0]} {least[1]}")

    def test_no_wrong_at_all(self):
        text = setup_text(((("again",),), ("stop", "go", "stop"), (("take",), ("take",), (), ())))
        self.assertEqual(Desk(text).say("wrongs"), "misstop, misbreak")


class Rows(DeskTest):

    def test_long_rows_of_lines(self):
        chance = random.Random(9)
        for number in range(10):
            setup = (WORKED, SETUP)[number % 2] if number < 4 else plain.chance_setup(chance)
            desk, play = Desk(setup_text(setup)), []
            for _ in range(120):
                events = []
                for _ in range(chance.randint(0, 2)):
                    standing = last_standing(setup, tuple(play + events))
                    events.append(chance.choice(events_at(setup, standing)))
                if chance.random() < 0.2:
                    events.append(("hear", 900))
                if events and events[-1] != ("hear", 900):
                    if len(play) + len(events) > 300:
                        continue
                    told = trace(setup, tuple(play + events))[len(play):]
                    self.says(desk, "do " + play_text(tuple(events)), ", ".join([wrong or "-" for wrong in told]))
                    play += events
                else:
                    self.bad(desk, "do " + play_text(tuple(events)))
                if play and chance.random() < 0.2:
                    many = chance.randint(1, min(5, len(play)))
                    self.says(desk, f"back {many}", "done")
                    del play[len(play) - many:]
                self.agrees(desk, setup, tuple(play))

    def agrees(self, desk, setup, play):
        standing = last_standing(setup, play)
        script, place, front, mode, hand, _, jobs = standing
        self.says(desk, "shell", f"{script} {place} {front} {mode} " + ("-" if hand == -1 else str(hand)))
        self.says(desk, "events", play_text(play) or "none")
        self.says(desk, "trace", ", ".join([wrong or "-" for wrong in trace(setup, play)]) or "none")
        self.says(desk, "can", play_text(tuple(events_at(setup, standing))))
        lines = [f"{number} {job[0]} {job[1]} {'own' if job[2] else 'shared'} {job[3]} {job[4]} "
                 f"{'held' if job[5] else 'free'}" for number, job in jobs]
        self.says(desk, "jobs", "; ".join(lines) or "none")


class Calls(DeskTest):

    def test_by_names(self):
        desk = Desk(text=TEXT)
        self.assertEqual(desk.say(line="do look"), "-")

    def test_in_time(self):
        for setup in list(LARGEST.values())[:3]:
            desk = Desk(setup_text(setup))
            for line in ["wrongs", "quietest"] + ["fewest " + wrong for wrong in WRONGS]:
                began = time.monotonic()
                self.assertNotEqual(desk.say(line), "bad line")
                self.assertLess(time.monotonic() - began, 10)
        desk = Desk(TEXT)
        began = time.monotonic()
        desk.say("do " + ", ".join(["back 0, shell"] * 150))
        for line in ("trace", "events", "shell", "jobs", "can", "x" * 2000, "do " + "look, " * 300 + "look"):
            desk.say(line)
        self.assertEqual(len(desk.world), 300)
        self.assertLess(time.monotonic() - began, 5)


if __name__ == "__main__":
    unittest.main()
