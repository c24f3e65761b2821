import importlib
import inspect
import unittest

# The functions that the interface lists under each module, with their parameters.
FUNCTIONS = {
    "setups": ["is_setup(thing)", "need_setup(thing)", "need_wrong(thing)"],
    "standings": [
        "is_standing(setup, thing)", "need_standing(setup, thing)", "job_of(setup, standing, number)",
        "is_in_front(setup, standing, number)", "is_meant(setup, standing, number)"],
    "events": [
        "can_be_done(setup, standing, event)", "step(setup, standing, event)", "events_at(setup, standing)"],
    "plays": ["need_play(setup, thing)", "is_play(setup, thing)", "trace(setup, play)", "last_standing(setup, play)"],
    "rows": [
        "is_row(setup, thing)", "row_of(setup, standing)", "covers(setup, row, standing)",
        "is_under(setup, row, other)", "behind(setup, row)"],
    "tables": [
        "is_table(setup, thing)", "is_closed(setup, thing)", "bars(setup, wrong, thing)", "table(setup)",
        "lean(setup, thing)"],
    "deciding": [
        "can_come(setup, wrong)", "fewest(setup, wrong)", "paper(setup, wrong)", "check_paper(setup, wrong, paper)",
        "wrongs_of(setup)"],
    "logs": [
        "visible(setup, play)", "need_log(setup, thing)", "fits(setup, log)", "may(setup, log)", "must(setup, log)",
        "fitting(setups, log)"],
    "live": ["under(manager, deed)"],
    "texts": ["setup_text(setup)", "read_setup(string)", "play_text(play)", "read_play(string)"],
    "mends": ["mends(setup)", "gains(setup, shell)", "mended(setup, wrong)", "rules_for(setup, wrong)",
              "quietest(setup)"],
}

VALUES = {"setups": ["ACTS", "STEPS", "SCRIPTS", "WRONGS"], "standings": ["START"], "plays": ["MOST_PLAY"]}

# The classes, with the parameters of what makes them, their methods and their properties.
CLASSES = {
    "live": [("World(setup)", [
        "do(self, event)", "__call__(self)", "back(self, *, many=1)", "copy(self)", "trial(self)", "__len__(self)",
        "__contains__(self, event)", "__eq__(self, other)"], ["setup", "standing", "play", "trace"])],
    "desk": [("Desk(text)", ["say(self, line)"], ["world"])],
    "errors": [("JobError", [], []), ("MissError", [], []), ("TooMany(most)", [], []), ("Missing(number)", [], []),
               ("BadEvent(event)", [], []), ("BadWrong(wrong)", [], []), ("BadQuestion(text)", [], [])] + [
        (f"{word}(place)", [], []) for word in (
            "BadSetup", "BadStanding", "BadPlay", "BadRow", "BadPaper", "BadLog", "BadText")],
}


class Interface(unittest.TestCase):

    def test_each_function_is_defined_in_its_file_with_its_parameters(self):
        for name, told in FUNCTIONS.items():
            module = importlib.import_module("frontjobs." + name)
            for line in told:
                function = getattr(module, line.partition("(")[0])
                self.assertEqual(function.__name__ + str(inspect.signature(function)), line)
                self.assertEqual(function.__module__, module.__name__)

    def test_each_class_is_defined_in_its_file_with_its_methods(self):
        for name, told in CLASSES.items():
            module = importlib.import_module("frontjobs." + name)
            for line, methods, properties in told:
                word, sign, parameters = line.partition("(")
                made = getattr(module, word)
                self.assertEqual(made.__module__, module.__name__)
                if sign:
                    self.assertEqual(str(inspect.signature(made)), sign + parameters)
                for method in methods:
                    function = vars(made)[method.partition("(")[0]]
                    self.assertEqual(function.__name__ + str(inspect.signature(function)), method)
                for word in properties:
                    self.assertIsInstance(vars(made)[word], property)

    def test_each_value_stands_in_its_file(self):
        for name, told in VALUES.items():
            module = importlib.import_module("frontjobs." + name)
            for word in told:
                self.assertIn(word, vars(module))


if __name__ == "__main__":
    unittest.main()
