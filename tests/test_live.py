import copy
import random
import time
import unittest

import plain
from frontjobs.errors import BadEvent, BadSetup, Missing
from frontjobs.events import can_be_done, events_at, step
from frontjobs.live import World, under
from frontjobs.plays import is_play, last_standing, trace
from frontjobs.standings import START
from samples import NEITHER, SETUP, THINGS, put
from shells import WORKED

LOOK = ("look",)
STEP = ("shell",)
SHORT = (("fore", 0), STEP, ("job", 0))


def world_behind(setup, play):
    world = World(setup)
    for event in play:
        world.do(event)
    return world


class Stop(Exception):
    pass


class WorldTest(unittest.TestCase):

    def stands(self, world, setup, play):
        """That the World is behind just this PLAY."""
        self.assertEqual(world.setup, setup)
        self.assertEqual(repr(world.play), repr(tuple(play)))
        self.assertEqual(repr(world.trace), repr(trace(setup, tuple(play))))
        self.assertEqual(repr(world.standing), repr(last_standing(setup, tuple(play))))
        self.assertEqual(len(world), len(play))

    def refuses(self, world, *things):
        """That none of these can be done, and that nothing has changed then."""
        for thing in things:
            before = (world.setup, world.standing, world.play, world.trace)
            with self.assertRaises(BadEvent) as told:
                world.do(thing)
            self.assertIs(told.exception.event, thing)
            self.assertIs(thing in world, False)
            self.assertEqual((world.setup, world.standing, world.play, world.trace), before)


class Worlds(WorldTest):

    def test_a_world_at_start(self):
        self.stands(World(WORKED), WORKED, ())
        self.assertEqual(World(WORKED).standing, START)
        self.assertEqual((World(WORKED).play, World(WORKED).trace), ((), ()))

    def test_bad_setup(self):
        for place, setup in (((), None), ((), list(WORKED)), (("kinds",), put(WORKED, 0, [])),
                             (("rules",), put(WORKED, 1, "go")), (("shell", 3), put(WORKED, 2, put(WORKED[2], 3, 0)))):
            with self.assertRaises(BadSetup) as told:
                World(setup)
            self.assertEqual(told.exception.place, place)

    def test_do(self):
        world = World(WORKED)
        self.assertIs(world.do(("fore", 0)), None)
        self.assertIs(world.do(STEP), None)
        self.assertEqual(world.do(("job", 0)), "unasked")
        self.assertIs(world.do(LOOK), None)
        self.stands(world, WORKED, SHORT + (LOOK,))

    def test_the_call_is_a_step_of_the_shell(self):
        world = World(WORKED)
        with self.assertRaises(BadEvent) as told:
            world()
        self.assertEqual(told.exception.event, STEP)
        world.do(("back", 0))
        self.assertIs(world(), None)
        self.stands(world, WORKED, (("back", 0), STEP))

    def test_what_cannot_be_done(self):
        world = World(WORKED)
        self.refuses(world, *THINGS, STEP, ("job", 0), ("fore", 1), ("hear", 0), ("fore", True), ["look"], ("look", 0))
        world.do(("fore", 0))
        self.refuses(world, *THINGS, ("fore", 0), ("job", 0), ("job", 1), ("line", False), ("stop", 10 ** 999))
        self.stands(world, WORKED, (("fore", 0),))

    def test_a_301st_event(self):
        world = world_behind(WORKED, (LOOK,) * 299)
        world.do(("fore", 0))
        for event in (LOOK, STEP, ("line", 0)):
            with self.assertRaises(BadEvent) as told:
                world.do(event)
            self.assertIs(told.exception.event, event)
            # By itself it could be done.
            self.assertIs(event in world, True)
        with self.assertRaises(BadEvent) as told:
            world()
        self.assertEqual(told.exception.event, STEP)
        self.stands(world, WORKED, (LOOK,) * 299 + (("fore", 0),))
        world.back()
        world.do(("back", 0))
        self.stands(world, WORKED, (LOOK,) * 299 + (("back", 0),))

    def test_in(self):
        world = World(WORKED)
        for event in (LOOK, ("fore", 0), ("back", 0)):
            self.assertIs(event in world, True)
        for thing in THINGS + [STEP, ("fore", 1), ("job", 0), ("front", 0)]:
            self.assertIs(thing in world, False)
            self.assertIs(thing not in world, True)
        world.do(("fore", 0))
        self.assertIs(STEP in world, True)
        self.assertIs(("fore", 0) in world, False)


class Back(WorldTest):

    def test_back(self):
        world = world_behind(WORKED, SHORT)
        self.assertIs(world.back(), None)
        self.stands(world, WORKED, SHORT[:2])
        world.back(many=2)
        self.stands(world, WORKED, ())
        world.do(("back", 0))
        self.stands(world, WORKED, (("back", 0),))
        world = world_behind(WORKED, (LOOK,) * 300)
        world.back(many=300)
        self.stands(world, WORKED, ())

    def test_missing(self):
        for many in NEITHER + [0, -1, 4, 10 ** 999, -(10 ** 999), True, False, 1.0, "1", (1,), None]:
            world = world_behind(WORKED, SHORT)
            with self.assertRaises(Missing) as told:
                world.back(many=many)
            self.assertIs(told.exception.number, many)
            self.stands(world, WORKED, SHORT)
        with self.assertRaises(Missing) as told:
            World(WORKED).back()
        self.assertEqual(told.exception.number, 1)

    def test_by_name_alone(self):
        world = world_behind(WORKED, SHORT)
        with self.assertRaises(TypeError):
            world.back(1)
        self.stands(world, WORKED, SHORT)


class Equal(WorldTest):

    def test_equal_setups_and_equal_standings(self):
        self.assertTrue(World(WORKED) == World(copy.deepcopy(WORKED)))
        self.assertFalse(World(WORKED) != World(WORKED))
        self.assertFalse(World(WORKED) == World(SETUP))
        self.assertTrue(World(WORKED) != World(SETUP))
        # How it came to it does not matter.
        self.assertTrue(World(WORKED) == world_behind(WORKED, (LOOK,)))
        one, other = world_behind(WORKED, (("fore", 0),)), world_behind(WORKED, (("back", 0),))
        self.assertFalse(one == other)
        self.assertTrue(one == world_behind(WORKED, (LOOK, ("fore", 0), LOOK)))

    def test_what_is_no_world(self):
        for thing in THINGS + [WORKED, START, World]:
            self.assertIs(World(WORKED) == thing, False)
            self.assertIs(World(WORKED) != thing, True)

    def test_copy(self):
        world = world_behind(WORKED, SHORT)
        other = world.copy()
        self.assertIsInstance(other, World)
        self.assertIsNot(other, world)
        self.assertTrue(other == world)
        self.stands(other, WORKED, SHORT)
        other.do(LOOK)
        other.back(many=3)
        self.stands(other, WORKED, SHORT[:1])
        self.stands(world, WORKED, SHORT)
        world.back(many=3)
        self.stands(other, WORKED, SHORT[:1])


class Trials(WorldTest):

    def test_behind_the_block_it_is_as_it_was(self):
        world = world_behind(WORKED, SHORT)
        with world.trial() as given:
            self.assertIs(given, world)
            world.do(LOOK)
            given()
            self.stands(world, WORKED, SHORT + (LOOK, STEP))
        self.stands(world, WORKED, SHORT)
        with world.trial():
            world.back(many=3)
            world.do(("back", 0))
        self.stands(world, WORKED, SHORT)

    def test_in_one_another(self):
        world = World(WORKED)
        with world.trial():
            world.do(("fore", 0))
            with world.trial() as given:
                given.do(STEP)
                with world.trial():
                    world.back(many=2)
                self.stands(world, WORKED, SHORT[:2])
            self.stands(world, WORKED, SHORT[:1])
            with world.trial():
                world.do(LOOK)
            self.stands(world, WORKED, SHORT[:1])
        self.stands(world, WORKED, ())

    def test_as_it_was_ahead_of_the_block(self):
        world = World(WORKED)
        manager = world.trial()
        world.do(("fore", 0))
        with manager:
            world.do(STEP)
        self.stands(world, WORKED, (("fore", 0),))

    def test_an_error_is_passed_on(self):
        world = world_behind(WORKED, SHORT[:1])
        error = Stop("now")
        with self.assertRaises(Stop) as told:
            with world.trial():
                with world.trial():
                    world.do(STEP)
                    raise error
        self.assertIs(told.exception, error)
        self.stands(world, WORKED, SHORT[:1])
        with self.assertRaises(BadEvent):
            with world.trial():
                world.do(STEP)
                world.do(("hear", 0))
        self.stands(world, WORKED, SHORT[:1])

    def test_a_block_that_is_left(self):
        world = World(WORKED)

        def leave():
            with world.trial():
                world.do(("fore", 0))
                return len(world)
        self.assertEqual(leave(), 1)
        for _ in range(2):
            with world.trial():
                world.do(LOOK)
                continue
        self.stands(world, WORKED, ())


class Under(WorldTest):

    def test_what_the_deed_returns(self):
        world = World(WORKED)
        things = []

        def deed(given):
            things.append(given)
            given.do(("fore", 0))
            return given.play
        self.assertEqual(under(world.trial(), deed), (("fore", 0),))
        self.assertIs(things[0], world)
        self.stands(world, WORKED, ())
        self.assertIs(under(world.trial(), lambda given: None), None)

    def test_another_manager(self):
        told = []

        class Manager:
            def __enter__(self):
                told.append("in")
                return 7

            def __exit__(self, *rest):
                told.append(rest[0])
        self.assertEqual(under(Manager(), lambda given: given + 1), 8)
        self.assertEqual(told, ["in", None])
        with self.assertRaises(Stop):
            under(Manager(), self.fails)
        self.assertEqual(told[2:], ["in", Stop])

    def fails(self, given):
        raise Stop()

    def test_an_error_is_passed_on(self):
        world = World(WORKED)
        with self.assertRaises(BadEvent):
            under(world.trial(), lambda given: (given.do(LOOK), given.do(STEP)))
        self.stands(world, WORKED, ())

    def test_under_one_another(self):
        world = World(WORKED)
        self.assertEqual(under(world.trial(), lambda given: (
            given.do(("fore", 0)), under(given.trial(), lambda inner: inner()), len(given))), (None, None, 1))
        self.stands(world, WORKED, ())


class Rows(WorldTest):

    def test_long_rows_of_deeds(self):
        chance = random.Random(1)
        for number in range(12):
            setup = (WORKED, SETUP)[number % 2] if number < 4 else plain.chance_setup(chance)
            world, play, kept = World(setup), [], []
            for _ in range(250):
                deed = chance.randrange(12)
                if deed == 0 and play:
                    many = chance.randint(1, min(4, len(play)))
                    world.back(many=many)
                    del play[len(play) - many:]
                elif deed == 1:
                    self.refuses(world, ("job", 900), ("fore", 3), STEP if STEP not in world else None)
                elif deed == 2:
                    kept.append((world.copy(), list(play)))
                elif deed == 3:
                    with world.trial():
                        world.do(LOOK)
                        world.do(chance.choice(events_at(setup, world.standing)))
                elif deed == 4 and STEP in world:
                    world()
                    play.append(STEP)
                elif len(play) < 300:
                    event = chance.choice(events_at(setup, world.standing))
                    self.assertEqual(world.do(event), step(setup, last_standing(setup, tuple(play)), event)[1])
                    play.append(event)
                self.assertEqual(len(world), len(play))
            self.stands(world, setup, play)
            self.assertIs(is_play(setup, world.play), True)
            for other, other_play in kept:
                self.stands(other, setup, other_play)

    def test_in_is_can_be_done(self):
        chance = random.Random(2)
        world = World(SETUP)
        for _ in range(60):
            events = events_at(SETUP, world.standing)
            for event in events + [("job", 0), ("line", 1), ("hear", 0), STEP]:
                self.assertIs(event in world, can_be_done(SETUP, world.standing, event))
            world.do(chance.choice(events))


class Calls(WorldTest):

    def test_by_names(self):
        world = World(setup=WORKED)
        self.assertIs(world.do(event=("fore", 0)), None)
        self.assertIs(world.back(many=1), None)
        self.assertEqual(under(deed=lambda given: given.do(LOOK), manager=world.trial()), None)
        self.stands(world, WORKED, ())

    def test_what_is_told_is_the_callers_own(self):
        setup = copy.deepcopy(SETUP)
        world = World(setup)
        world.do(("fore", 0))
        for told in (world.play, world.trace, world.standing, world.setup):
            self.assertIsInstance(told, tuple)
        events = events_at(world.setup, world.standing)
        events.clear()
        self.assertEqual(setup, SETUP)
        self.stands(world, SETUP, (("fore", 0),))

    def test_in_time(self):
        began = time.monotonic()
        world = World(SETUP)
        for _ in range(300):
            world.do(("fore", 0) if ("fore", 0) in world else LOOK)
        self.stands(world, SETUP, world.play)
        self.assertEqual(world.copy(), world)
        self.assertLess(time.monotonic() - began, 5)


if __name__ == "__main__":
    unittest.main()
