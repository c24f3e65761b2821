"""How tests write JOBs and STANDINGs, and ask about EVENTs."""

import unittest

from frontjobs.errors import BadEvent
from frontjobs.events import can_be_done, events_at, step
from frontjobs.standings import is_standing

# Every pair of a STATE and a NOTICE that a JOB may have.
STATES = [("runs", "none"), ("runs", "stop"), ("stopped", "none"), ("stopped", "stop"), ("ended", "end")]


def job(kind=0, place=0, own=False, state="runs", notice="none", held=False):
    return (kind, place, own, state, notice, held)


def standing(*jobs, script="none", place=0, front="shell", mode="plain", hand=-1, made=None):
    """A STANDING with these JOBs, numbered from 0 on, or with pairs of a NUMBER and a JOB."""
    pairs = tuple([one if len(one) == 2 else (number, one) for number, one in enumerate(jobs)])
    if made is None:
        made = pairs[-1][0] + 1 if pairs else 0
    return (script, place, front, mode, hand, made, pairs)


def shell_of(fore=(), back=(), front=(), behind=()):
    return (fore, back, front, behind)


def setup_of(*kinds, rules=("stop", "stop", "stop"), shell=None):
    return (kinds, rules, shell or shell_of(*[("go", "go", "go")] * 4))


class EventTest(unittest.TestCase):

    def comes(self, setup, before, event, behind, wrong=None):
        """That the EVENT can be done, and what is behind it."""
        self.assertIs(can_be_done(setup, before, event), True, event)
        told = step(setup, before, event)
        # Equal is not enough: 1 and True are equal.
        self.assertEqual(repr(told), repr((behind, wrong)))
        self.assertIn(event, events_at(setup, before))
        self.assertIs(is_standing(setup, behind), True)

    def refused(self, setup, before, *events):
        """That none of these can be done, and that step tells the very thing."""
        for event in events:
            self.assertIs(can_be_done(setup, before, event), False, event)
            with self.assertRaises(BadEvent) as told:
                step(setup, before, event)
            self.assertIs(told.exception.event, event)
            self.assertNotIn(repr(event), [repr(one) for one in events_at(setup, before)])

    def wrong_of(self, setup, before, event):
        return step(setup, before, event)[1]
