import inspect
import unittest

from frontjobs import errors
from samples import THINGS

PLACED = ("BadSetup", "BadStanding", "BadPlay", "BadRow", "BadPaper", "BadLog", "BadText")

# The name of each class, the class that it is straight under, and the attribute that the document names.
TOLD = [("JobError", ValueError, None), ("MissError", LookupError, None)]
TOLD += [(name, errors.JobError, "place") for name in PLACED]
TOLD += [
    ("BadEvent", errors.JobError, "event"),
    ("BadWrong", errors.JobError, "wrong"),
    ("BadQuestion", errors.JobError, None),
    ("TooMany", OverflowError, "most"),
    ("Missing", errors.MissError, "number"),
]


class Classes(unittest.TestCase):

    def test_each_class_is_straight_under_the_one_that_is_named(self):
        for name, above, _ in TOLD:
            with self.subTest(name):
                self.assertEqual(getattr(errors, name).__bases__, (above,))

    def test_there_are_no_others(self):
        found = [name for name, made in vars(errors).items() if inspect.isclass(made)]
        self.assertEqual(sorted(found), sorted([name for name, _, _ in TOLD]))

    def test_each_is_defined_in_this_file(self):
        for name, _, _ in TOLD:
            self.assertEqual(getattr(errors, name).__module__, "frontjobs.errors")

    def test_no_class_of_one_family_is_caught_as_one_of_another(self):
        for name, above, _ in TOLD:
            made = getattr(errors, name)
            for other in (errors.JobError, errors.TooMany, errors.MissError):
                with self.subTest(name=name, other=other.__name__):
                    self.assertEqual(issubclass(made, other), other in (made, above))


class Attributes(unittest.TestCase):

    def test_by_position_each_keeps_anything(self):
        for name, _, attribute in TOLD:
            for thing in THINGS if attribute else ():
                self.assertIs(getattr(getattr(errors, name)(thing), attribute), thing, name)

    def test_by_name_each_keeps_anything(self):
        for name, _, attribute in TOLD:
            for thing in THINGS if attribute else ():
                self.assertIs(getattr(getattr(errors, name)(**{attribute: thing}), attribute), thing, name)

    def test_each_object_has_its_own(self):
        for name, _, attribute in TOLD:
            if attribute:
                made = getattr(errors, name)
                one, other = made(("kinds",)), made(("shell",))
                self.assertEqual(vars(one), {attribute: ("kinds",)})
                self.assertEqual(vars(other), {attribute: ("shell",)})

    def test_each_needs_the_one_thing(self):
        for name, _, attribute in TOLD:
            if attribute:
                with self.assertRaises(TypeError):
                    getattr(errors, name)()
                with self.assertRaises(TypeError):
                    getattr(errors, name)(1, 2)

    def test_the_text_of_a_question(self):
        self.assertEqual(str(errors.BadQuestion("unlike KINDS")), "unlike KINDS")
        for thing in THINGS:
            self.assertIsInstance(errors.BadQuestion(thing), errors.JobError)

    def test_they_can_be_raised_and_caught(self):
        for name, above, attribute in TOLD:
            made = getattr(errors, name)
            for caught in (made, above):
                with self.subTest(name=name, caught=caught.__name__):
                    with self.assertRaises(caught) as told:
                        raise made("x")
                    if attribute:
                        self.assertEqual(getattr(told.exception, attribute), "x")


if __name__ == "__main__":
    unittest.main()
