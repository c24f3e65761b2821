import importlib
import inspect
import unittest

# The functions that the interface lists under each module so far, with their parameters.
FUNCTIONS = {
    "setups": ["is_setup(thing)", "need_setup(thing)", "need_wrong(thing)"],
    "standings": [
        "is_standing(setup, thing)", "need_standing(setup, thing)", "job_of(setup, standing, number)",
        "is_in_front(setup, standing, number)", "is_meant(setup, standing, number)"],
    "events": [
        "can_be_done(setup, standing, event)", "step(setup, standing, event)", "events_at(setup, standing)"],
    "plays": ["need_play(setup, thing)", "is_play(setup, thing)", "trace(setup, play)", "last_standing(setup, play)"],
    "rows": [
        "is_row(setup, thing)", "row_of(setup, standing)", "covers(setup, row, standing)",
        "is_under(setup, row, other)", "behind(setup, row)"],
    "tables": [
        "is_table(setup, thing)", "is_closed(setup, thing)", "bars(setup, wrong, thing)", "table(setup)",
        "lean(setup, thing)"],
    "deciding": [
        "can_come(setup, wrong)", "fewest(setup, wrong)", "paper(setup, wrong)", "check_paper(setup, wrong, paper)",
        "wrongs_of(setup)"],
    "mends": ["mends(setup)", "gains(setup, shell)", "mended(setup, wrong)", "rules_for(setup, wrong)",
              "quietest(setup)"],
}

VALUES = {"setups": ["ACTS", "STEPS", "SCRIPTS", "WRONGS"], "standings": ["START"], "plays": ["MOST_PLAY"]}


class Interface(unittest.TestCase):

    def test_each_function_is_defined_in_its_file_with_its_parameters(self):
        for name, told in FUNCTIONS.items():
            module = importlib.import_module("frontjobs." + name)
            for line in told:
                function = getattr(module, line.partition("(")[0])
                self.assertEqual(function.__name__ + str(inspect.signature(function)), line)
                self.assertEqual(function.__module__, module.__name__)

    def test_each_value_stands_in_its_file(self):
        for name, told in VALUES.items():
            module = importlib.import_module("frontjobs." + name)
            for word in told:
                self.assertIn(word, vars(module))


if __name__ == "__main__":
    unittest.main()
